"""Everything's place in a box, and the leaves that are told of it."""

from setpress.glue import Gives, more_by_setting
from setpress.leaders import copy_places
from setpress.packing import ROW
from setpress.sizes import Size, length_in_column, side_size, size_in_row

GLYPH_LEAF = 0
RULE_LEAF = 1
ANCHOR_LEAF = 2


def length_along(thing, direction):
    return size_in_row(thing).width if direction == ROW else length_in_column(thing)


def stations(box):
    """Each thing of a box, its place, and the space from there to the next one's place."""
    gives = Gives()
    length = 0
    place = 0
    found = []
    for thing in box["things"]:
        length += length_along(thing, box["direction"])
        gives.include(thing)
        # Rounded out of the whole sum each time: so what's rounded never adds up.
        following = length + more_by_setting(box, gives)
        found.append((thing, place, following - place))
        place = following
    return found


def box_leaves(box, x, y):
    """The leaves of a box whose left end and line are at (x, y), as numbers one behind another."""
    if box["direction"] == ROW:
        return row_leaves(box, x, y)
    return column_leaves(box, x, y - box["height"])


def row_leaves(box, x, y):
    numbers = []
    for thing, place, space in stations(box):
        if thing["kind"] == "leaders":
            numbers.extend(leaders_in_row(box, thing, x, y, place, space))
        else:
            numbers.extend(leaves_in_row(box, thing, x + place, y))
    return numbers


def column_leaves(box, x, top):
    numbers = []
    for thing, place, space in stations(box):
        if thing["kind"] == "leaders":
            numbers.extend(leaders_in_column(box, thing, x, top, place, space))
        else:
            numbers.extend(leaves_in_column(box, thing, x, top + place))
    return numbers


def leaves_in_row(around, thing, x, y):
    """The leaves of a thing that begins at x, in a row whose line is at y."""
    kind = thing["kind"]
    if kind == "rule":
        height = side_or(thing["height"], around["height"])
        depth = side_or(thing["depth"], around["depth"])
        return rule_leaf(x, y, Size(side_size(thing["width"]), height, depth))
    if kind == "box":
        return box_leaves(thing, x, y + thing["shift"])
    return named_leaf(thing, x, y)


def leaves_in_column(around, thing, x, top):
    """The leaves of a thing whose top is at top, in a column whose left end is at x."""
    kind = thing["kind"]
    if kind == "rule":
        size = Size(side_or(thing["width"], around["width"]), side_size(thing["height"]), side_size(thing["depth"]))
        return rule_leaf(x, top + size.height, size)
    if kind == "box":
        return box_leaves(thing, x + thing["shift"], top + thing["height"])
    return named_leaf(thing, x, top)


def leaders_in_row(around, thing, x, y, place, space):
    repeated = thing["repeated"]
    if repeated["kind"] == "rule":
        height = side_or(repeated["height"], around["height"])
        depth = side_or(repeated["depth"], around["depth"])
        return rule_leaf(x + place, y, Size(space, height, depth))
    numbers = []
    for copy_place in copy_places(thing["way"], repeated["width"], place, space):
        numbers.extend(leaves_in_row(around, repeated, x + copy_place, y))
    return numbers


def leaders_in_column(around, thing, x, top, place, space):
    repeated = thing["repeated"]
    if repeated["kind"] == "rule":
        width = side_or(repeated["width"], around["width"])
        return rule_leaf(x, top + place + space, Size(width, space, 0))
    numbers = []
    for copy_place in copy_places(thing["way"], length_in_column(repeated), place, space):
        numbers.extend(leaves_in_column(around, repeated, x, top + copy_place))
    return numbers


def side_or(side, running):
    return running if side is None else side


def rule_leaf(x, y, size):
    if size.width < 1 or size.height + size.depth < 1:
        return []
    return [RULE_LEAF, x, y, size.width, size.height, size.depth]


def named_leaf(thing, x, y):
    if thing["kind"] == "glyph":
        return [GLYPH_LEAF, thing["name"], x, y]
    if thing["kind"] == "anchor":
        return [ANCHOR_LEAF, thing["name"], x, y]
    return []

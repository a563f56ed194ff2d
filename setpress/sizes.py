"""The sizes of rows and columns by themselves."""


class Size:
    """A width; a height above the line and a depth below it."""

    def __init__(self, width, height, depth):
        self.width = width
        self.height = height
        self.depth = depth


def side_size(side):
    return 0 if side is None else side


def size_in_row(thing):
    kind = thing["kind"]
    if kind == "glyph":
        return Size(thing["width"], thing["height"], thing["depth"])
    if kind == "kern" or kind == "glue":
        return Size(thing["size"], 0, 0)
    if kind == "leaders":
        repeated = size_in_row(thing["repeated"])
        return Size(thing["size"], repeated.height, repeated.depth)
    if kind == "rule":
        return Size(side_size(thing["width"]), side_size(thing["height"]), side_size(thing["depth"]))
    if kind == "box":
        shift = thing["shift"]
        return Size(thing["width"], thing["height"] - shift, thing["depth"] + shift)
    if kind == "disc":
        return row_size(thing["unparted"])
    return Size(0, 0, 0)


def row_size(things):
    width = 0
    height = 0
    depth = 0
    for thing in things:
        part = size_in_row(thing)
        width += part.width
        height = max(height, part.height)
        depth = max(depth, part.depth)
    return Size(width, height, depth)


def is_box_or_rule(thing):
    return thing["kind"] in ("box", "rule")


def is_space(thing):
    return thing["kind"] in ("kern", "glue", "leaders")


def width_in_column(thing):
    kind = thing["kind"]
    if kind == "box":
        return thing["width"] + thing["shift"]
    if kind == "rule":
        return side_size(thing["width"])
    if kind == "leaders":
        return width_in_column(thing["repeated"])
    return 0


def length_in_column(thing):
    """What a thing takes from the top downwards."""
    if is_box_or_rule(thing):
        return side_size(thing["height"]) + side_size(thing["depth"])
    if is_space(thing):
        return thing["size"]
    return 0


class GrowingColumn:
    """A column as far as it stands: so each thing more is one step, not the whole column anew."""

    def __init__(self):
        self.width = 0
        self.length = 0
        self.last_depth = 0

    def include(self, thing):
        self.width = max(self.width, width_in_column(thing))
        self.length += length_in_column(thing)
        if is_box_or_rule(thing):
            self.last_depth = side_size(thing["depth"])
        elif is_space(thing):
            self.last_depth = 0

    def size_by_last_line(self, greatest_depth):
        """Its size from its last line; a greatest depth below 0 is none."""
        depth = self.last_depth
        if greatest_depth >= 0:
            depth = min(depth, greatest_depth)
        return Size(self.width, self.length - depth, depth)


def column_size(things, greatest_depth):
    column = GrowingColumn()
    for thing in things:
        column.include(thing)
    return column.size_by_last_line(greatest_depth)


def size_by_top(column, things):
    """The size of a column that stands on the line of its first thing, out of that from its last line."""
    height = 0
    if len(things) > 0 and is_box_or_rule(things[0]):
        height = side_size(things[0]["height"])
    return Size(column.width, height, column.height + column.depth - height)

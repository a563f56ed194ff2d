"""How things are packed into a box, and what's said of it."""

from setpress.glue import set_glue, sum_gives
from setpress.sizes import Size, column_size, row_size, size_by_top

ROW = 0
COLUMN = 1
AS_IT_COMES = 0
TO_A_SIZE = 1

NOTHING = 0
LOOSE = 1
TIGHT = 2
TOO_FULL = 3


def size_by_itself(things, kind, greatest_depth):
    if kind == ROW:
        return row_size(things)
    return column_size(things, greatest_depth)


def more_than_by_itself(size, kind, how, wanted):
    if how == AS_IT_COMES:
        return 0
    if how == TO_A_SIZE:
        return wanted - (size.width if kind == ROW else size.height)
    return wanted


def packed_size(things, kind, size, more):
    if kind == ROW:
        return Size(size.width + more, size.height, size.depth)
    column = Size(size.width, size.height + more, size.depth)
    if kind == COLUMN:
        return column
    return size_by_top(column, things)


def make_box(things, kind, size, fit):
    return {
        "kind": "box",
        "direction": ROW if kind == ROW else COLUMN,
        "width": size.width,
        "height": size.height,
        "depth": size.depth,
        "order": fit.order,
        "numerator": fit.part,
        "denominator": fit.total,
        "shift": 0,
        "things": things,
    }


def what_is_said(more, fit):
    if fit.excess > 0:
        return [TOO_FULL, fit.excess]
    if fit.badness == 0:
        return [NOTHING, 0]
    return [LOOSE if more > 0 else TIGHT, fit.badness]


class Packed:
    """The box that things make, and what's said of it."""

    def __init__(self, things, kind, how, wanted, greatest_depth):
        size = size_by_itself(things, kind, greatest_depth)
        more = more_than_by_itself(size, kind, how, wanted)
        fit = set_glue(sum_gives(things), more)
        self.box = make_box(things, kind, packed_size(things, kind, size, more), fit)
        self.said = what_is_said(more, fit)

"""How a column fits that's packed to a height, while it grows."""

from setpress.glue import Gives, set_glue
from setpress.sizes import GrowingColumn


class FittedColumn:
    """A column as far as it stands, and how its glue gives way."""

    def __init__(self):
        self.column = GrowingColumn()
        self.gives = Gives()

    def include(self, thing):
        self.column.include(thing)
        self.gives.include(thing)

    def fit_to(self, height, greatest_depth):
        size = self.column.size_by_last_line(greatest_depth)
        return set_glue(self.gives, height - size.height)


def fit_column(things, height, greatest_depth):
    column = FittedColumn()
    for thing in things:
        column.include(thing)
    return column.fit_to(height, greatest_depth)

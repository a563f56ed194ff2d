"""How glue is set, and how badly that fits."""

WORST = 10000


class Fit:
    """A setting, part / total of an order; how badly it fits; by how much it's too full (0: it isn't)."""

    def __init__(self, order, part, total, badness, excess):
        self.order = order
        self.part = part
        self.total = total
        self.badness = badness
        self.excess = excess


class Gives:
    """The stretches and the shrinks of glue and leaders, summed up for each order."""

    def __init__(self):
        self.stretches = [0, 0, 0, 0]
        self.shrinks = [0, 0, 0, 0]

    def include(self, thing):
        if thing["kind"] in ("glue", "leaders"):
            self.stretches[thing["stretch order"]] += thing["stretch"]
            self.shrinks[thing["shrink order"]] += thing["shrink"]


def sum_gives(things):
    gives = Gives()
    for thing in things:
        gives.include(thing)
    return gives


def first_order(sums):
    """The greatest order in which something can be set; None, if there's none."""
    for order in (3, 2, 1, 0):
        if sums[order] > 0:
            return order
    return None


def how_badly(more, total):
    return min(WORST, 100 * more ** 3 // total ** 3)


def stretched(sums, more):
    order = first_order(sums)
    if order is None:
        return Fit(0, 0, 1, WORST, 0)
    total = sums[order]
    if order > 0:
        return Fit(order, more, total, 0, 0)
    return Fit(order, more, total, how_badly(more, total), 0)


def shrunk(sums, less):
    order = first_order(sums)
    if order is None:
        return Fit(0, 0, 1, 0, less)
    total = sums[order]
    if order > 0:
        return Fit(order, -less, total, 0, 0)
    if less > total:
        return Fit(order, -total, total, 0, less - total)
    return Fit(order, -less, total, how_badly(less, total), 0)


def set_glue(gives, more):
    """How things that so give way are set, if they are to have so much more (below 0: less) than by themselves."""
    if more > 0:
        return stretched(gives.stretches, more)
    if more < 0:
        return shrunk(gives.shrinks, -more)
    return Fit(0, 0, 1, 0, 0)


def more_by_setting(box, gives):
    """By how much things that so give way are longer (below 0: shorter) in this box than by themselves."""
    sums = gives.stretches if box["numerator"] > 0 else gives.shrinks
    return box["numerator"] * sums[box["order"]] // box["denominator"]

"""How glue is set, and how badly that fits."""

WORST = 10000


class Fit:
    """A setting, part / total of an order; how badly it fits; by how much it's too full (0: it isn't)."""

    def __init__(self, order, part, total, badness, excess):
        self.order = order
        self.part = part
        self.total = total
        self.badness = badness
        self.excess = excess


def sums_by_order(things, give):
    """The stretches or the shrinks (as give says) of glue and leaders, summed up for each order."""
    sums = [0, 0, 0, 0]
    for thing in things:
        if thing["kind"] in ("glue", "leaders"):
            sums[thing[give + " order"]] += thing[give]
    return sums


def first_order(sums):
    """The greatest order in which something can be set; None, if there's none."""
    for order in (3, 2, 1, 0):
        if sums[order] > 0:
            return order
    return None


def how_badly(more, total):
    return min(WORST, 100 * more ** 3 // total ** 3)


def stretched(sums, more):
    order = first_order(sums)
    if order is None:
        return Fit(0, 0, 1, WORST, 0)
    total = sums[order]
    if order > 0:
        return Fit(order, more, total, 0, 0)
    return Fit(order, more, total, how_badly(more, total), 0)


def shrunk(sums, less):
    order = first_order(sums)
    if order is None:
        return Fit(0, 0, 1, 0, less)
    total = sums[order]
    if order > 0:
        return Fit(order, -less, total, 0, 0)
    if less > total:
        return Fit(order, -total, total, 0, less - total)
    return Fit(order, -less, total, how_badly(less, total), 0)


def set_glue(things, more):
    """How things are set that are to have so much more (below 0: less) than by themselves."""
    if more > 0:
        return stretched(sums_by_order(things, "stretch"), more)
    if more < 0:
        return shrunk(sums_by_order(things, "shrink"), -more)
    return Fit(0, 0, 1, 0, 0)

"""How a column is cut, and what moves out of a list."""

from setpress.fitting import FittedColumn
from setpress.glue import WORST
from setpress.sizes import is_box_or_rule, side_size

NO_BREAK = 10000
FORCED = -10000
COST_OF_WORST = 100000

GLUES = ("glue", "leaders")
DROPPED = ("glue", "leaders", "kern", "penalty")
STAYING = ("box", "rule", "insertion")
MOVING = ("insertion", "mark", "adjust")


def penalty_at(things, place):
    """The penalty of the break at a place of a column (behind its last thing is its end); None: there's no break."""
    if place == len(things):
        return 0
    kind = things[place]["kind"]
    if kind == "penalty":
        cost = things[place]["cost"]
        return cost if cost < NO_BREAK else None
    if kind in GLUES:
        may_break = place > 0 and things[place - 1]["kind"] not in DROPPED
    else:
        may_break = kind == "kern" and place + 1 < len(things) and things[place + 1]["kind"] in GLUES
    return 0 if may_break else None


def break_cost(badness, penalty):
    if penalty <= FORCED:
        return penalty
    if badness == WORST:
        return COST_OF_WORST
    return badness + penalty


def break_taken(things, height, greatest_depth):
    """The place of the break at which this column is cut."""
    column = FittedColumn()
    taken = None
    least = None
    for place in range(len(things) + 1):
        penalty = penalty_at(things, place)
        if penalty is not None:
            fit = column.fit_to(height, greatest_depth)
            if fit.excess > 0:
                return place if taken is None else taken
            cost = break_cost(fit.badness, penalty)
            if least is None or cost <= least:
                taken = place
                least = cost
            if penalty <= FORCED:
                return taken
        if place < len(things):
            column.include(things[place])
    return taken


def without_dropped(things):
    """These things without those that are dropped at the beginning."""
    kept = []
    for place, thing in enumerate(things):
        if thing["kind"] in STAYING:
            return kept + things[place:]
        if thing["kind"] not in DROPPED:
            kept.append(thing)
    return kept


def glue_less(glue, height):
    lessened = dict(glue)
    lessened["size"] = max(0, glue["size"] - height)
    return lessened


def with_glue_at_top(things, glue):
    for place, thing in enumerate(things):
        if is_box_or_rule(thing):
            return things[:place] + [glue_less(glue, side_size(thing["height"]))] + things[place:]
    return things


class Cut:
    """A column that's cut: the upper part, the rest with this glue at its top, the penalty at the break."""

    def __init__(self, things, height, greatest_depth, glue):
        place = break_taken(things, height, greatest_depth)
        behind = without_dropped(things[place + 1:])
        self.penalty = penalty_at(things, place)
        if any([thing["kind"] in STAYING for thing in behind]):
            self.upper_part = things[:place]
            self.rest = with_glue_at_top(behind, glue)
        else:
            self.upper_part = things[:place] + behind
            self.rest = []


def what_moves_out(things):
    moved = []
    for thing in things:
        if thing["kind"] == "adjust":
            moved.extend(thing["things"])
        elif thing["kind"] in MOVING:
            moved.append(thing)
    return moved


def what_stays(things):
    return [thing for thing in things if thing["kind"] not in MOVING]

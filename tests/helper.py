"""What the tests share: things and calls by name, and answers taken apart."""

from setpress.boxes import answers

LEAST = -1073741823
GREATEST = 1073741823
RUNS = None


def listed(*things):
    numbers = [len(things)]
    for thing in things:
        numbers += thing
    return numbers


def glyph(name=65, width=10, height=7, depth=2):
    return [0, name, width, height, depth]


def kern(size=3):
    return [1, size]


def five(size=5, stretch=0, stretch_order=0, shrink=0, shrink_order=0):
    return [size, stretch, stretch_order, shrink, shrink_order]


def glue(*given, **named):
    return [2] + five(*given, **named)


def leaders(repeated, way=0, glue_numbers=None):
    return [3] + (five() if glue_numbers is None else glue_numbers) + [way] + repeated


def penalty(cost=0):
    return [4, cost]


def rule(width=RUNS, height=RUNS, depth=RUNS):
    numbers = [5]
    for side in (width, height, depth):
        numbers += [0] if side is RUNS else [1, side]
    return numbers


def box(*things, direction=0, width=0, height=0, depth=0, order=0, numerator=0, denominator=1, shift=0):
    return [6, direction, width, height, depth, order, numerator, denominator, shift] + listed(*things)


def disc(before=(), behind=(), unparted=()):
    return [7] + listed(*before) + listed(*behind) + listed(*unparted)


def adjust(*things):
    return [8] + listed(*things)


def mark(number=0):
    return [9, number]


def insertion(*things, number=0, glue_numbers=None, depth=0, cost=0):
    return [10, number] + (five() if glue_numbers is None else glue_numbers) + [depth, cost] + listed(*things)


def anchor(name=0):
    return [11, name]


def put_numbers(k, t):
    return [0, k, len(t)] + list(t)


def put(k, *things):
    return put_numbers(k, listed(*things))


def told(k):
    return [1, k]


def size(k, column):
    return [2, k, column]


def pack(k, j, kind=0, how=0, a=0, m=-1):
    return [3, k, j, kind, how, a, m]


def unpack(k, i, j):
    return [4, k, i, j]


def join(j, k):
    return [5, j, k]


def shift(k, i, s):
    return [6, k, i, s]


def fit(k, i, v, m=-1):
    return [7, k, i, v, m]


def places(k, i, x=0, y=0):
    return [8, k, i, x, y]


def cut(k, j, m, v, d=-1, g=(0, 0, 0, 0, 0)):
    return [9, k, j, m, v, d, len(g)] + list(g)


def move(k, j):
    return [10, k, j]


def parted(numbers):
    """What is given back for each call, without the counts."""
    parts = []
    place = 0
    while place < len(numbers):
        count = numbers[place]
        parts.append(numbers[place + 1:place + 1 + count])
        place += 1 + count
    if place != len(numbers):
        raise ValueError("the counts don't come out")
    return parts


def run(*calls):
    """The answers to these calls, one list each."""
    return parted(answers(sum(calls, [])))


def last(*calls):
    return run(*calls)[-1]


def nested(deep, make=box, inner=()):
    """A thing that's so deep: of kind make, each in the next."""
    thing = make(*inner)
    for step in range(deep - 1):
        thing = make(thing)
    return thing


def at_glyph(name, x, y):
    return [0, name, x, y]


def at_rule(x, y, width, height, depth):
    return [1, x, y, width, height, depth]


def at_anchor(name, x, y):
    return [2, name, x, y]


def leaves_of(thing, x=0, y=0):
    return last(put(0, thing), places(0, 0, x, y))

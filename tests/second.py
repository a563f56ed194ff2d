"""A second reckoning of all the calls, that knows numbers alone.

It keeps each list as its numbers and goes by them, where the program goes by things; it is written apart from the
program, straight out of the document, and takes the long way wherever there is one.
"""

from fractions import Fraction
from math import floor

from helper import GREATEST, LEAST


class Bad(Exception):
    pass


def between(number, least, greatest):
    if number < least or number > greatest:
        raise Bad()
    return number


def take(numbers, place):
    if place >= len(numbers):
        raise Bad()
    return numbers[place]


def after_length(numbers, place):
    between(take(numbers, place), LEAST, GREATEST)
    return place + 1


def after_upto(numbers, place, greatest):
    between(take(numbers, place), 0, greatest)
    return place + 1


def after_five(numbers, place):
    place = after_length(numbers, place)
    for step in range(2):
        place = after_upto(numbers, after_length(numbers, place), 3)
    return place


def after_list(numbers, place, deep, no_leaders):
    """Where the list at a place ends, or Bad. deep: how many things stand around it."""
    count = take(numbers, place)
    between(count, 0, len(numbers))
    place += 1
    for step in range(count):
        place = after_thing(numbers, place, deep, no_leaders)
    return place


def after_thing(numbers, place, deep, no_leaders):
    kind = between(take(numbers, place), 0, 11)
    place += 1
    if kind in (3, 6, 7, 8, 10) and deep == 8:
        raise Bad()
    if kind == 0:
        place = after_upto(numbers, place, 65535)
        for step in range(3):
            place = after_length(numbers, place)
    elif kind in (1, 4):
        place = after_length(numbers, place)
    elif kind == 2:
        place = after_five(numbers, place)
    elif kind == 3:
        place = after_upto(numbers, after_five(numbers, place), 2)
        if no_leaders or take(numbers, place) not in (5, 6):
            raise Bad()
        place = after_thing(numbers, place, deep + 1, True)
    elif kind == 5:
        for step in range(3):
            told_side = take(numbers, place)
            place = after_upto(numbers, place, 1)
            if told_side:
                place = after_length(numbers, place)
    elif kind == 6:
        place = after_upto(numbers, place, 1)
        for step in range(3):
            place = after_length(numbers, place)
        place = after_upto(numbers, place, 3)
        between(take(numbers, place), 1 - 2 ** 60, 2 ** 60 - 1)
        between(take(numbers, place + 1), 1, 2 ** 60 - 1)
        place = after_list(numbers, after_length(numbers, place + 2), deep + 1, no_leaders)
    elif kind == 7:
        for step in range(3):
            place = after_list(numbers, place, deep + 1, no_leaders)
    elif kind == 8:
        place = after_list(numbers, place, deep + 1, no_leaders)
    elif kind == 10:
        place = after_five(numbers, after_upto(numbers, place, 255))
        for step in range(2):
            place = after_length(numbers, place)
        place = after_list(numbers, place, deep + 1, no_leaders)
    else:
        place = after_upto(numbers, place, 255 if kind == 9 else 65535)
    return place


def is_right(numbers):
    try:
        return after_list(numbers, 0, 0, False) == len(numbers)
    except Bad:
        return False


def split(numbers):
    """The numbers of each thing of a right list."""
    things = []
    place = 1
    for step in range(numbers[0]):
        end = after_thing(numbers, place, -100, False)
        things.append(numbers[place:end])
        place = end
    return things


def sides(thing):
    """Width, height, depth of a rule or box, in themselves."""
    if thing[0] == 6:
        return thing[2:5]
    rest = thing[1:]
    found = []
    for step in range(3):
        if rest[0]:
            found.append(rest[1])
            rest = rest[2:]
        else:
            found.append(0)
            rest = rest[1:]
    return found


def in_row(thing):
    kind = thing[0]
    if kind == 0:
        return thing[2:]
    if kind in (1, 2):
        return [thing[1], 0, 0]
    if kind == 3:
        return [thing[1]] + in_row(thing[7:])[1:]
    if kind == 5:
        return sides(thing)
    if kind == 6:
        width, height, depth = sides(thing)
        return [width, height - thing[8], depth + thing[8]]
    if kind == 7:
        first = after_list(thing, 1, -100, False)
        return row(thing[after_list(thing, first, -100, False):])
    return [0, 0, 0]


def row(numbers):
    parts = [in_row(thing) for thing in split(numbers)]
    return [sum(part[0] for part in parts)] + [max([0] + [part[at] for part in parts]) for at in (1, 2)]


def column(numbers, greatest):
    things = split(numbers)
    wide = [0]
    total = 0
    for thing in things:
        inner = thing[7:] if thing[0] == 3 else thing
        if inner[0] in (5, 6):
            wide.append(sides(inner)[0] + (inner[8] if inner[0] == 6 else 0))
        if thing[0] in (5, 6):
            total += sum(sides(thing)[1:])
        if thing[0] in (1, 2, 3):
            total += thing[1]
    last = [thing for thing in things if thing[0] in (1, 2, 3, 5, 6)][-1:]
    depth = sides(last[0])[2] if last and last[0][0] in (5, 6) else 0
    if 0 <= greatest < depth:
        depth = greatest
    return [max(wide), total - depth, depth]


def setting(numbers, more):
    """The setting's three numbers, and what's said."""
    if more == 0:
        return [0, 0, 1], [0, 0]
    at = 2 if more > 0 else 4
    totals = {order: 0 for order in range(4)}
    for thing in split(numbers):
        if thing[0] in (2, 3):
            totals[thing[at + 1]] += thing[at]
    able = [order for order in totals if totals[order] > 0]
    if not able:
        return [0, 0, 1], ([1, 10000] if more > 0 else [3, -more])
    order = max(able)
    total = totals[order]
    if order:
        return [order, more, total], [0, 0]
    if -more > total:
        return [0, -total, total], [3, -more - total]
    bad = min(10000, (100 * abs(more) ** 3) // total ** 3)
    return [0, more, total], ([1 if more > 0 else 2, bad] if bad else [0, 0])


def along(thing, direction):
    """What a thing takes of the box around, in a row (0) or in a column (1)."""
    if direction == 0:
        return in_row(thing)[0]
    if thing[0] in (5, 6):
        return sum(sides(thing)[1:])
    return thing[1] if thing[0] in (1, 2, 3) else 0


def place(box, count):
    """Where, from the beginning of a box, the thing stands that has so many before it."""
    order, numerator, denominator = box[5:8]
    at = 2 if numerator > 0 else 4
    before = split(box[9:])[:count]
    give = sum(thing[at] for thing in before if thing[0] in (2, 3) and thing[at + 1] == order)
    return sum(along(thing, box[1]) for thing in before) + floor(Fraction(numerator, denominator) * give)


def copies(way, size, begin, end):
    """Where a box is repeated between two places."""
    if size < 1 or end - begin < 1:
        return []
    if way == 0:
        multiple = (begin // size - 2) * size
        found = []
        while multiple + size <= end and len(found) < 16:
            if multiple >= begin:
                found.append(multiple)
            multiple += size
        return found
    times = (end - begin) // size
    left = end - begin - times * size
    if way == 1:
        return [begin + floor(Fraction(left, 2)) + copy * size for copy in range(times)[:16]]
    gap = floor(Fraction(left, times + 1))
    return [begin + (copy + 1) * gap + copy * size for copy in range(times)[:16]]


def told_sides(numbers):
    """A rule's sides; None is one that runs."""
    found = []
    place_of_side = 1
    for step in range(3):
        found.append(numbers[place_of_side + 1] if numbers[place_of_side] else None)
        place_of_side += 1 + numbers[place_of_side]
    return found


def rule_told(x, y, sizes):
    return [[1, x, y] + sizes] if sizes[0] > 0 and sizes[1] + sizes[2] > 0 else []


def leaf(thing, around, x, y):
    """The leaves of one thing that stands at (x, y): in a row on its line, in a column with its top."""
    if thing[0] == 5:
        runs = [around[2], 0, 0] if around[1] else [0, around[3], around[4]]
        sizes = [running if side is None else side for side, running in zip(told_sides(thing), runs)]
        return rule_told(x, y + sizes[1] if around[1] else y, sizes)
    if thing[0] == 6:
        return leaves(thing, x + thing[8], y + thing[3]) if around[1] else leaves(thing, x, y + thing[8])
    return [[{0: 0, 11: 2}[thing[0]], thing[1], x, y]] if thing[0] in (0, 11) else []


def leaves(box, x, y):
    found = []
    in_column = box[1]
    start = y - box[3] if in_column else x
    for count, thing in enumerate(split(box[9:])):
        begin, end = place(box, count), place(box, count + 1)
        if thing[0] == 3 and thing[7] == 5:
            sizes = told_sides(thing[7:])
            if in_column and end > begin:
                found += rule_told(x, start + end, [box[2] if sizes[0] is None else sizes[0], end - begin, 0])
            elif not in_column:
                high = [running if side is None else side for side, running in zip(sizes[1:], box[3:5])]
                found += rule_told(start + begin, y, [end - begin] + high)
            continue
        drawn, spots = thing, [begin]
        if thing[0] == 3:
            drawn = thing[7:]
            spots = copies(thing[6], along(drawn, in_column), begin, end)
        for spot in spots:
            found += leaf(drawn, box, x, start + spot) if in_column else leaf(drawn, box, start + spot, y)
    return found


def told_again(things):
    return [len(things)] + sum(things, [])


def how_it_fits(things, v, m):
    numbers = told_again(things)
    said = setting(numbers, v - column(numbers, m)[1])[1]
    return [1 if said[0] == 3 else 0, said[1]]


def breaks(things):
    """Where a column may be cut, with the penalties there."""
    found = []
    for count, thing in enumerate(things):
        before = things[count - 1][0] if count else 2
        behind = things[count + 1][0] if count + 1 < len(things) else None
        if thing[0] in (2, 3) and before not in (1, 2, 3, 4):
            found.append((count, 0))
        if thing[0] == 1 and behind in (2, 3):
            found.append((count, 0))
        if thing[0] == 4 and thing[1] < 10000:
            found.append((count, thing[1]))
    return found + [(len(things), 0)]


def costs(things, v, d):
    """The breaks that are looked at and counted: cost, place, penalty."""
    found = []
    for count, penalty in breaks(things):
        full, badness = how_it_fits(things[:count], v, d)
        if full:
            break
        if penalty <= -10000:
            found.append((penalty, count, penalty))
            break
        found.append((100000 if badness == 10000 else badness + penalty, count, penalty))
    return found


def cut_at(things, v, d):
    """The place of the break taken, and the penalty there."""
    counted = costs(things, v, d)
    if not counted:
        return breaks(things)[0]
    least = min(cost for cost, count, penalty in counted)
    return [(count, penalty) for cost, count, penalty in counted if cost == least][-1]


def cut_apart(things, count, g):
    behind = things[count + 1:]
    kinds = [thing[0] for thing in behind]
    first = min([kinds.index(kind) for kind in (5, 6, 10) if kind in kinds], default=len(behind))
    kept = [thing for thing in behind[:first] if thing[0] not in (1, 2, 3, 4)]
    if first == len(behind):
        return things[:count] + kept, []
    rest = kept + behind[first:]
    for at, thing in enumerate(rest):
        if thing[0] in (5, 6):
            rest.insert(at, [2, max(0, g[0] - sides(thing)[1])] + g[1:])
            break
    return things[:count], rest


class Second:
    """The second reckoning's eight lists."""

    def __init__(self):
        self.lists = {k: [0] for k in range(8)}

    def answer(self, call):
        number, given = call[0], call[1:]
        lists = {0: (0,), 1: (0,), 2: (0,), 3: (0, 1), 4: (0, 2), 5: (0, 1), 6: (0,), 7: (0,), 8: (0,), 9: (0, 1, 2),
                 10: (0, 1)}[number]
        lengths = {3: (4, 5), 6: (2,), 7: (2, 3), 8: (2, 3), 9: (3, 4)}.get(number, ())
        if any(given[at] > 7 for at in lists) or any(abs(given[at]) > GREATEST for at in lengths):
            return [-1]
        if number == 0:
            return self.put(given[0], given[2:])
        if number == 9:
            return self.cut(*given[:5], given[6:])
        return [None, self.told, self.size, self.pack, self.unpack, self.join, self.shift, self.fit, self.places, None,
                self.move][number](*given)

    def told(self, k):
        return self.lists[k]

    def size(self, k, in_column):
        if in_column > 1:
            return [-1]
        return column(self.lists[k], -1) if in_column else row(self.lists[k])

    def join(self, j, k):
        joined = told_again(split(self.lists[j]) + split(self.lists[k]))
        return self.keep(j, joined, joined[:1])

    def keep(self, k, numbers, answer):
        if len(numbers) > 2000 or not is_right(numbers):
            return [-6]
        self.lists[k] = numbers
        return answer

    def put(self, k, numbers):
        if not is_right(numbers):
            return [-3]
        return self.keep(k, numbers, numbers[:1])

    def pack(self, k, j, kind, how, a, m):
        if kind > 2 or how > 2:
            return [-1]
        numbers = self.lists[k]
        sizes = column(numbers, m) if kind else row(numbers)
        direction = 1 if kind else 0
        more = [0, a - sizes[direction], a][how]
        sizes[direction] += more
        if kind == 2:
            first = split(numbers)[:1]
            height = sides(first[0])[1] if first and first[0][0] in (5, 6) else 0
            sizes[1:] = [height, sizes[1] + sizes[2] - height]
        glue_set, said = setting(numbers, more)
        return self.keep(j, [1, 6, direction] + sizes + glue_set + [0] + numbers, said)

    def box_at(self, k, i):
        """The numbers of thing i of list k, or None if that's no box or not there."""
        things = split(self.lists[k])
        return things[i] if i < len(things) and things[i][0] == 6 else None

    def unpack(self, k, i, j):
        if not self.box_at(k, i):
            return [-4]
        self.lists[j] = self.box_at(k, i)[9:]
        return self.lists[j][:1]

    def shift(self, k, i, s):
        if not self.box_at(k, i):
            return [-4]
        things = split(self.lists[k])
        things[i][8] = s
        self.lists[k] = told_again(things)
        return [0]

    def fit(self, k, i, v, m):
        things = split(self.lists[k])
        return [-4] if i > len(things) else how_it_fits(things[:i], v, m)

    def places(self, k, i, x, y):
        return sum(leaves(self.box_at(k, i), x, y), []) if self.box_at(k, i) else [-4]

    def cut(self, k, j, m, v, d, g):
        if j == m or len(g) != 5 or not is_right([1, 2] + g):
            return [-1]
        things = split(self.lists[k])
        count, penalty = cut_at(things, v, d)
        upper, rest = [told_again(part) for part in cut_apart(things, count, g)]
        if not all(len(part) <= 2000 and is_right(part) for part in (upper, rest)):
            return [-6]
        self.lists.update({j: upper, m: rest})
        return [penalty]

    def move(self, k, j):
        if j == k:
            return [-1]
        things = split(self.lists[k])
        moved = sum([split(thing[1:]) if thing[0] == 8 else [thing] for thing in things if thing[0] in (8, 9, 10)], [])
        stay = [thing for thing in things if thing[0] not in (8, 9, 10)]
        self.lists.update({k: told_again(stay), j: told_again(moved)})
        return [len(moved)]

"""Many histories of calls, made up by a fixed rule, against a second reckoning that knows numbers alone.

The second reckoning keeps each list as its numbers and goes by them, where the program goes by things; it is written
apart from the program, straight out of the document.
"""

import random
import unittest

from helper import (
    GREATEST, LEAST, adjust, anchor, box, disc, five, glue, glyph, insertion, join, kern, leaders, listed, mark, pack,
    penalty, put_numbers, rule, run, size, told, unpack,
)


class Bad(Exception):
    pass


def between(number, least, greatest):
    if number < least or number > greatest:
        raise Bad()
    return number


def take(numbers, place):
    if place >= len(numbers):
        raise Bad()
    return numbers[place]


def after_length(numbers, place):
    between(take(numbers, place), LEAST, GREATEST)
    return place + 1


def after_upto(numbers, place, greatest):
    between(take(numbers, place), 0, greatest)
    return place + 1


def after_five(numbers, place):
    place = after_length(numbers, place)
    for step in range(2):
        place = after_upto(numbers, after_length(numbers, place), 3)
    return place


def after_list(numbers, place, deep, no_leaders):
    """Where the list at a place ends, or Bad. deep: how many things stand around it."""
    count = take(numbers, place)
    between(count, 0, len(numbers))
    place += 1
    for step in range(count):
        place = after_thing(numbers, place, deep, no_leaders)
    return place


def after_thing(numbers, place, deep, no_leaders):
    kind = between(take(numbers, place), 0, 11)
    place += 1
    if kind in (3, 6, 7, 8, 10) and deep == 8:
        raise Bad()
    if kind == 0:
        place = after_upto(numbers, place, 65535)
        for step in range(3):
            place = after_length(numbers, place)
    elif kind in (1, 4):
        place = after_length(numbers, place)
    elif kind == 2:
        place = after_five(numbers, place)
    elif kind == 3:
        place = after_upto(numbers, after_five(numbers, place), 2)
        if no_leaders or take(numbers, place) not in (5, 6):
            raise Bad()
        place = after_thing(numbers, place, deep + 1, True)
    elif kind == 5:
        for step in range(3):
            told_side = take(numbers, place)
            place = after_upto(numbers, place, 1)
            if told_side:
                place = after_length(numbers, place)
    elif kind == 6:
        place = after_upto(numbers, place, 1)
        for step in range(3):
            place = after_length(numbers, place)
        place = after_upto(numbers, place, 3)
        between(take(numbers, place), 1 - 2 ** 60, 2 ** 60 - 1)
        between(take(numbers, place + 1), 1, 2 ** 60 - 1)
        place = after_list(numbers, after_length(numbers, place + 2), deep + 1, no_leaders)
    elif kind == 7:
        for step in range(3):
            place = after_list(numbers, place, deep + 1, no_leaders)
    elif kind == 8:
        place = after_list(numbers, place, deep + 1, no_leaders)
    elif kind == 10:
        place = after_five(numbers, after_upto(numbers, place, 255))
        for step in range(2):
            place = after_length(numbers, place)
        place = after_list(numbers, place, deep + 1, no_leaders)
    else:
        place = after_upto(numbers, place, 255 if kind == 9 else 65535)
    return place


def is_right(numbers):
    try:
        return after_list(numbers, 0, 0, False) == len(numbers)
    except Bad:
        return False


def split(numbers):
    """The numbers of each thing of a right list."""
    things = []
    place = 1
    for step in range(numbers[0]):
        end = after_thing(numbers, place, -100, False)
        things.append(numbers[place:end])
        place = end
    return things


def sides(thing):
    """Width, height, depth of a rule or box, in themselves."""
    if thing[0] == 6:
        return thing[2:5]
    rest = thing[1:]
    found = []
    for step in range(3):
        if rest[0]:
            found.append(rest[1])
            rest = rest[2:]
        else:
            found.append(0)
            rest = rest[1:]
    return found


def in_row(thing):
    kind = thing[0]
    if kind == 0:
        return thing[2:]
    if kind in (1, 2):
        return [thing[1], 0, 0]
    if kind == 3:
        return [thing[1]] + in_row(thing[7:])[1:]
    if kind == 5:
        return sides(thing)
    if kind == 6:
        width, height, depth = sides(thing)
        return [width, height - thing[8], depth + thing[8]]
    if kind == 7:
        first = after_list(thing, 1, -100, False)
        return row(thing[after_list(thing, first, -100, False):])
    return [0, 0, 0]


def row(numbers):
    parts = [in_row(thing) for thing in split(numbers)]
    return [sum(part[0] for part in parts)] + [max([0] + [part[at] for part in parts]) for at in (1, 2)]


def column(numbers, greatest):
    things = split(numbers)
    wide = [0]
    total = 0
    for thing in things:
        inner = thing[7:] if thing[0] == 3 else thing
        if inner[0] in (5, 6):
            wide.append(sides(inner)[0] + (inner[8] if inner[0] == 6 else 0))
        if thing[0] in (5, 6):
            total += sum(sides(thing)[1:])
        if thing[0] in (1, 2, 3):
            total += thing[1]
    last = [thing for thing in things if thing[0] in (1, 2, 3, 5, 6)][-1:]
    depth = sides(last[0])[2] if last and last[0][0] in (5, 6) else 0
    if 0 <= greatest < depth:
        depth = greatest
    return [max(wide), total - depth, depth]


def setting(numbers, more):
    """The setting's three numbers, and what's said."""
    if more == 0:
        return [0, 0, 1], [0, 0]
    at = 2 if more > 0 else 4
    totals = {order: 0 for order in range(4)}
    for thing in split(numbers):
        if thing[0] in (2, 3):
            totals[thing[at + 1]] += thing[at]
    able = [order for order in totals if totals[order] > 0]
    if not able:
        return [0, 0, 1], ([1, 10000] if more > 0 else [3, -more])
    order = max(able)
    total = totals[order]
    if order:
        return [order, more, total], [0, 0]
    if -more > total:
        return [0, -total, total], [3, -more - total]
    bad = min(10000, (100 * abs(more) ** 3) // total ** 3)
    return [0, more, total], ([1 if more > 0 else 2, bad] if bad else [0, 0])


class Second:
    """The second reckoning's eight lists."""

    def __init__(self):
        self.lists = {k: [0] for k in range(8)}

    def answer(self, call):
        number, given = call[0], call[1:]
        if number == 0:
            return self.put(given[0], given[2:])
        places = {1: (0,), 2: (0,), 3: (0, 1), 4: (0, 2), 5: (0, 1)}[number]
        if any(given[place] > 7 for place in places):
            return [-1]
        if number == 1:
            return self.lists[given[0]]
        if number == 2:
            if given[1] > 1:
                return [-1]
            return column(self.lists[given[0]], -1) if given[1] else row(self.lists[given[0]])
        if number == 3:
            return self.pack(*given)
        if number == 4:
            return self.unpack(*given)
        joined = self.lists[given[0]] + self.lists[given[1]][1:]
        joined[0] += self.lists[given[1]][0]
        return self.keep(given[0], joined, [joined[0]])

    def keep(self, k, numbers, answer):
        if len(numbers) > 2000 or not is_right(numbers):
            return [-6]
        self.lists[k] = numbers
        return answer

    def put(self, k, numbers):
        if k > 7:
            return [-1]
        if not is_right(numbers):
            return [-3]
        return self.keep(k, numbers, numbers[:1])

    def pack(self, k, j, kind, how, a, m):
        if kind > 2 or how > 2 or abs(a) > GREATEST or abs(m) > GREATEST:
            return [-1]
        numbers = self.lists[k]
        sizes = column(numbers, m) if kind else row(numbers)
        along = 1 if kind else 0
        more = [0, a - sizes[along], a][how]
        sizes[along] += more
        if kind == 2:
            first = split(numbers)[:1]
            height = sides(first[0])[1] if first and first[0][0] in (5, 6) else 0
            sizes[1:] = [height, sizes[1] + sizes[2] - height]
        glue_set, said = setting(numbers, more)
        return self.keep(j, [1, 6, along] + sizes + glue_set + [0] + numbers, said)

    def unpack(self, k, i, j):
        things = split(self.lists[k])
        if i >= len(things) or things[i][0] != 6:
            return [-4]
        self.lists[j] = things[i][9:]
        return self.lists[j][:1]


class Maker:
    """Things and calls, made up."""

    def __init__(self, seed):
        self.random = random.Random(seed)

    def length(self):
        pick = self.random.randrange(40)
        if pick == 0:
            return self.random.choice([LEAST, GREATEST])
        if pick < 8:
            return 0
        return self.random.randint(-30, 100)

    def five(self):
        order = self.random.choice([0, 0, 1, 2, 3])
        return five(self.length(), self.length(), order, self.length(), self.random.choice([order, 0, 1, 2, 3]))

    def things(self, deep, leaders_too=True):
        return [self.thing(deep, leaders_too) for step in range(self.random.choice([0, 1, 1, 2, 3, 5]))]

    def rule(self):
        return rule(*[self.random.choice([None, self.length()]) for step in range(3)])

    def box(self, deep, leaders_too=True):
        return box(*self.things(deep - 1, leaders_too), direction=self.random.randrange(2), width=self.length(),
                   height=self.length(), depth=self.length(), order=self.random.randrange(4), numerator=self.length(),
                   denominator=self.random.randint(1, 99), shift=self.length())

    def thing(self, deep, leaders_too=True):
        kinds = [0, 1, 2, 2, 4, 5, 9, 11] + ([3, 6, 6, 7, 8, 10] if deep > 0 else [])
        kind = self.random.choice(kinds)
        if kind == 3 and not leaders_too:
            kind = 2
        if kind == 0:
            return glyph(self.random.randint(0, 65535), self.length(), self.length(), self.length())
        if kind == 3:
            repeated = self.box(deep - 1, False) if deep > 1 and self.random.randrange(2) else self.rule()
            return leaders(repeated, self.random.randrange(3), self.five())
        if kind == 10:
            return insertion(*self.things(deep - 1, leaders_too), number=self.random.randrange(256),
                             glue_numbers=self.five(), depth=self.length(), cost=self.length())
        if kind == 7:
            return disc(*[self.things(deep - 1, leaders_too) for step in range(3)])
        if kind == 6:
            return self.box(deep, leaders_too)
        if kind == 8:
            return adjust(*self.things(deep - 1, leaders_too))
        return {1: lambda: kern(self.length()), 2: lambda: glue(*self.five()), 4: lambda: penalty(self.length()),
                5: self.rule, 9: lambda: mark(self.random.randrange(256)),
                11: lambda: anchor(self.random.randint(0, 65535))}[kind]()

    def numbers(self):
        deep = self.random.choice([0, 1, 2, 3, 8, 9, 10])
        numbers = listed(*[self.thing(deep) for step in range(self.random.choice([0, 1, 2, 4, 8]))])
        if self.random.randrange(6) == 0:
            numbers[self.random.randrange(len(numbers))] += self.random.choice([-1, 1, 2, 300, 2 ** 31])
        return numbers[:150] if self.random.randrange(8) == 0 else numbers

    def k(self):
        return 8 if self.random.randrange(60) == 0 else self.random.randrange(4)

    def choice(self, choices):
        return choices if self.random.randrange(50) == 0 else self.random.randrange(choices)

    def call(self, room):
        number = self.random.choice([0, 0, 0, 1, 2, 3, 3, 3, 4, 5])
        if number == 0:
            numbers = self.numbers()
            return put_numbers(self.k(), numbers) if len(numbers) < room else told(self.k())
        if number == 3:
            a = GREATEST + 1 if self.random.randrange(80) == 0 else self.length()
            return pack(self.k(), self.k(), self.choice(3), self.choice(3), a, self.length())
        if number == 4:
            return unpack(self.k(), self.random.choice([0, 0, 0, 1, 2, 9]), self.k())
        return {1: told(self.k()), 2: size(self.k(), self.choice(2)), 5: join(self.k(), self.k())}[number]

    def calls(self):
        calls = []
        room = 2800
        for step in range(self.random.randint(1, 16)):
            calls.append(self.call(room))
            room -= len(calls[-1])
        return calls


class Histories(unittest.TestCase):

    def test_against_the_second_reckoning(self):
        refused = {}
        for seed in range(1500):
            calls = Maker(seed).calls()
            second = Second()
            expected = [second.answer(call) for call in calls]
            self.assertEqual(run(*calls), expected, seed)
            for call, answer in zip(calls, expected):
                if len(answer) == 1 and answer[0] < 0:
                    refused[(call[0], answer[0])] = True
        # the histories are of use only if they come by every refusal that they can
        every = {(0, -1), (0, -3), (1, -1), (2, -1), (3, -1), (3, -6), (4, -1), (4, -4), (5, -1)}
        self.assertLessEqual(every, set(refused))

    def test_packed_and_unpacked_a_list_is_as_it_was(self):
        for seed in range(300):
            maker = Maker(seed)
            numbers = listed(*maker.things(6))
            wanted = maker.random.randint(-200, 400)
            put_call = put_numbers(0, numbers)
            answers = run(put_call, pack(0, 1, seed % 3, 1, wanted, -1), unpack(1, 0, 2), told(2), told(0))
            self.assertEqual(answers[4], numbers)
            if len(answers[1]) == 2:
                self.assertEqual(answers[2:4], [numbers[:1], numbers])


if __name__ == "__main__":
    unittest.main()

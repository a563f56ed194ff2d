"""Many histories of calls, made up by a fixed rule, against the second reckoning of second.py."""

import random
import unittest

from helper import (
    GREATEST, LEAST, adjust, anchor, box, cut, disc, fit, five, glue, glyph, insertion, join, kern, last, leaders,
    listed, mark, move, pack, penalty, places, put_numbers, rule, run, shift, size, told, unpack,
)
from second import Second, costs, split


class Maker:
    """Things and calls, made up."""

    def __init__(self, seed):
        self.random = random.Random(seed)

    def length(self):
        pick = self.random.randrange(40)
        if pick == 0:
            return self.random.choice([LEAST, GREATEST])
        if pick < 8:
            return 0
        return self.random.randint(-30, 100)

    def five(self):
        order = self.random.choice([0, 0, 1, 2, 3])
        return five(self.length(), self.length(), order, self.length(), self.random.choice([order, 0, 1, 2, 3]))

    def things(self, deep, leaders_too=True):
        return [self.thing(deep, leaders_too) for step in range(self.random.choice([0, 1, 1, 2, 3, 5]))]

    def rule(self):
        return rule(*[self.random.choice([None, self.length()]) for step in range(3)])

    def box(self, deep, leaders_too=True):
        return box(*self.things(deep - 1, leaders_too), direction=self.random.randrange(2), width=self.length(),
                   height=self.length(), depth=self.length(), order=self.random.randrange(4), numerator=self.length(),
                   denominator=self.random.randint(1, 99), shift=self.length())

    def thing(self, deep, leaders_too=True):
        kinds = [0, 1, 2, 2, 4, 5, 9, 11] + ([3, 6, 6, 7, 8, 10] if deep > 0 else [])
        kind = self.random.choice(kinds)
        if kind == 3 and not leaders_too:
            kind = 2
        if kind == 0:
            return glyph(self.random.randint(0, 65535), self.length(), self.length(), self.length())
        if kind == 3:
            repeated = self.box(deep - 1, False) if deep > 1 and self.random.randrange(2) else self.rule()
            return leaders(repeated, self.random.randrange(3), self.five())
        if kind == 10:
            return insertion(*self.things(deep - 1, leaders_too), number=self.random.randrange(256),
                             glue_numbers=self.five(), depth=self.length(), cost=self.length())
        if kind == 7:
            return disc(*[self.things(deep - 1, leaders_too) for step in range(3)])
        if kind == 6:
            return self.box(deep, leaders_too)
        if kind == 8:
            return adjust(*self.things(deep - 1, leaders_too))
        return {1: lambda: kern(self.length()), 2: lambda: glue(*self.five()), 4: lambda: penalty(self.length()),
                5: self.rule, 9: lambda: mark(self.random.randrange(256)),
                11: lambda: anchor(self.random.randint(0, 65535))}[kind]()

    def numbers(self):
        deep = self.random.choice([0, 1, 2, 3, 8, 9, 10])
        numbers = listed(*[self.thing(deep) for step in range(self.random.choice([0, 1, 2, 4, 8]))])
        if self.random.randrange(6) == 0:
            numbers[self.random.randrange(len(numbers))] += self.random.choice([-1, 1, 2, 300, 2 ** 31])
        return numbers[:150] if self.random.randrange(8) == 0 else numbers

    def k(self):
        """A list that's asked; mostly one of those that are full at the beginning."""
        return 8 if self.random.randrange(60) == 0 else self.random.choice([0, 0, 0, 1, 1, 2, 3])

    def j(self):
        """A list that's filled."""
        return 8 if self.random.randrange(60) == 0 else self.random.choice([0, 1, 2, 2, 3, 3, 4])

    def choice(self, choices):
        return choices if self.random.randrange(50) == 0 else self.random.randrange(choices)

    def line(self):
        """A thing of a column as it's often set."""
        pick = self.random.randrange(12)
        if pick < 4:
            return box(glyph(self.random.randint(0, 9)), width=20, height=self.random.randint(0, 12),
                       depth=self.random.randint(0, 3), shift=self.random.choice([0, 0, 3]))
        if pick < 8:
            return glue(self.random.randint(0, 4), self.random.randint(0, 6), self.random.choice([0, 0, 0, 1]),
                        self.random.randint(0, 3), 0)
        if pick == 8:
            return penalty(self.random.choice([0, 50, -50, 200, 9999, 10000, 10001, -9999, -10000, -10001]))
        if pick == 9:
            return kern(self.random.randint(-3, 6))
        return self.thing(2)

    def column_numbers(self):
        return listed(*[self.line() for step in range(self.random.randint(0, 25))])

    def spaced_numbers(self):
        """A box with leaders in it, mostly of boxes that may be drawn some times."""
        things = []
        for step in range(self.random.randint(1, 4)):
            things.append(kern(self.random.randint(-40, 40)))
            repeated = box(anchor(step), width=self.random.randint(-1, 12), height=self.random.randint(-1, 9),
                           depth=self.random.randint(-1, 9), shift=self.random.randint(-2, 2))
            things.append(leaders(self.random.choice([repeated, repeated, self.rule()]), self.random.randrange(3),
                                  five(self.random.randint(-5, 150), self.random.randint(-1, 9), 0,
                                       self.random.randint(-1, 9), 0)))
            things.append(self.thing(2))
        return listed(box(*things, direction=self.random.randrange(2), width=30, height=40, depth=2, order=0,
                          numerator=self.random.randint(-20, 20), denominator=self.random.randint(1, 9)))

    def put(self, k):
        make = self.random.choice([self.numbers, self.numbers, self.column_numbers, self.spaced_numbers])
        return put_numbers(k, make())

    def call(self):
        number = self.random.choice([0, 1, 2, 3, 3, 4, 4, 5, 6, 6, 7, 7, 8, 8, 8, 9, 9, 10])
        if number == 0:
            return self.put(self.j())
        if number == 3:
            return pack(self.k(), self.j(), self.choice(3), self.choice(3), self.asked(), self.length())
        if number == 4:
            return unpack(self.k(), self.i(), self.j())
        if number == 6:
            return shift(self.k(), self.i(), self.asked())
        if number == 7:
            return fit(self.k(), self.random.randrange(9), self.asked(), self.asked())
        if number == 8:
            return places(self.k(), self.i(), self.asked(), self.asked())
        if number == 9:
            g = self.five()
            if self.random.randrange(30) == 0:
                g[self.random.randrange(5)] += self.random.choice([4, -4, GREATEST])
            return cut(self.k(), self.j(), self.j(), self.asked(), self.length(), g[:4 + self.random.randrange(30)])
        return {1: told(self.k()), 2: size(self.k(), self.choice(2)), 5: join(self.j(), self.k()),
                10: move(self.k(), self.j())}[number]

    def i(self):
        return self.random.choice([0, 0, 0, 0, 1, 2, 9])

    def asked(self):
        """A length, now and then one that's beyond what it can be."""
        return self.random.choice([GREATEST + 1, LEAST - 1]) if self.random.randrange(80) == 0 else self.length()

    def calls(self):
        calls = [self.put(0), self.put(1)] if self.random.randrange(5) else []
        for step in range(self.random.randint(1, 14)):
            calls.append(self.call())
        while sum(len(call) for call in calls) > 3000:
            calls.remove(max(calls, key=len))
        return calls


class Histories(unittest.TestCase):

    def test_against_the_second_reckoning(self):
        refused = {}
        answered = {number: 0 for number in range(11)}
        for seed in range(2500):
            calls = Maker(seed).calls()
            second = Second()
            expected = [second.answer(call) for call in calls]
            self.assertEqual(run(*calls), expected, seed)
            for call, answer in zip(calls, expected):
                if len(answer) == 1 and answer[0] in (-1, -3, -4, -6):
                    refused[(call[0], answer[0])] = True
                else:
                    answered[call[0]] += 1
        # the histories are of use only if they come by every call, and by every refusal that they can
        self.assertGreater(min(answered.values()), 300)
        every = {(0, -1), (0, -3), (1, -1), (2, -1), (3, -1), (3, -6), (4, -1), (4, -4), (5, -1), (6, -1), (6, -4),
                 (7, -1), (7, -4), (8, -1), (8, -4), (9, -1), (10, -1)}
        self.assertLessEqual(every, set(refused))

    def test_packed_and_unpacked_a_list_is_as_it_was(self):
        for seed in range(300):
            maker = Maker(seed)
            numbers = listed(*maker.things(6))
            wanted = maker.random.randint(-200, 400)
            put_call = put_numbers(0, numbers)
            answers = run(put_call, pack(0, 1, seed % 3, 1, wanted, -1), unpack(1, 0, 2), told(2), told(0))
            self.assertEqual(answers[4], numbers)
            if len(answers[1]) == 2:
                self.assertEqual(answers[2:4], [numbers[:1], numbers])


class Cuts(unittest.TestCase):

    def histories(self):
        """Columns, the heights and depths they're cut to, and the upper parts and the rests."""
        for seed in range(1500):
            maker = Maker(seed)
            numbers = maker.column_numbers()
            v, d = maker.random.randint(-5, 90), maker.random.choice([-1, 0, 1, 2, 50])
            answers = run(put_numbers(0, numbers), cut(0, 1, 2, v, d, five(7)), told(1), told(2))
            if answers[1] != [-6]:
                yield split(numbers), v, d, answers[1][0], split(answers[2]), split(answers[3])

    def test_against_the_second_reckoning(self):
        for seed in range(1500):
            maker = Maker(seed)
            calls = [put_numbers(0, maker.column_numbers())]
            for step in range(4):
                calls += [cut(0, 1, 0, maker.random.randint(-5, 60), maker.random.choice([-1, 0, 2]), five(7, 1, 2)),
                          told(1), told(0)]
            second = Second()
            self.assertEqual(run(*calls), [second.answer(call) for call in calls], seed)

    def test_all_but_what_is_dropped_in_order(self):
        for things, v, d, told_penalty, upper, rest in self.histories():
            laid = [at for at, thing in enumerate(rest) if thing[0] in (5, 6)][:1]
            together = upper + [thing for at, thing in enumerate(rest) if [at + 1] != laid]
            left = list(together)
            for thing in things:
                if left and thing == left[0]:
                    left.pop(0)
                else:
                    self.assertIn(thing[0], (1, 2, 3, 4))
            self.assertEqual(left, [])

    def test_no_break_looked_at_costs_less_than_the_one_taken(self):
        several = 0
        for things, v, d, told_penalty, upper, rest in self.histories():
            counted = costs(things, v, d)
            # where nothing is left for the rest, the upper part doesn't tell where the break was
            if rest and counted:
                several += len(counted) > 1
                taken = [cost for cost, count, cost_told in counted if count == len(upper)]
                self.assertEqual(taken, [min(counted)[0]])
                self.assertIn((taken[0], len(upper), told_penalty), counted)
        self.assertGreater(several, 100)


class Places(unittest.TestCase):

    def test_against_the_second_reckoning(self):
        for seed in range(1500):
            maker = Maker(seed)
            calls = [put_numbers(0, maker.spaced_numbers()), places(0, 0, 3, -4), pack(0, 1, 1, 1, 90, 0),
                     places(1, 0, 0, 0)]
            second = Second()
            self.assertEqual(run(*calls), [second.answer(call) for call in calls], seed)

    def test_where_glue_could_be_set_the_end_is_where_it_should_be(self):
        seen = 0
        for seed in range(600):
            maker = Maker(seed)
            things = [maker.line() for step in range(12)] + [glue(1, 9, 0, 90, 0), anchor(65535)]
            wanted = maker.random.randint(20, 200)
            direction = seed % 2
            answers = run(put_numbers(0, listed(*things)), pack(0, 1, direction, 1, wanted, 0), places(1, 0, 5, 6))
            # not kept, too full, or perhaps loose by none
            if answers[1][0] not in (-6, 3) and answers[1] != [1, 10000]:
                seen += 1
                self.assertEqual(answers[2][-4:], [2, 65535, 5, 6] if direction else [2, 65535, 5 + wanted, 6])
        self.assertGreater(seen, 300)

    def test_each_leaf_is_told_once(self):
        for seed in range(300):
            maker = Maker(seed)
            things = [maker.thing(3, False) for step in range(8)]
            numbers = last(put_numbers(0, listed(box(*things, direction=seed % 2))), places(0, 0))
            found = [name for kind, name in named_leaves(numbers)]
            self.assertEqual(found, names_in(box(*things)))


def named_leaves(numbers):
    """Kinds and names of the glyphs and anchors among leaves."""
    rest = list(numbers)
    while rest:
        if rest[0] != 1:
            yield rest[0], rest[1]
        rest = rest[6 if rest[0] == 1 else 4:]


def names_in(thing):
    """The names of glyphs and anchors in a box, and in boxes within it."""
    if thing[0] in (0, 11):
        return [thing[1]]
    return sum([names_in(inner) for inner in split(thing[9:])], []) if thing[0] == 6 else []


if __name__ == "__main__":
    unittest.main()

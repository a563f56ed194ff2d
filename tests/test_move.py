"""move: insertions, marks and adjusts move out of a list."""

import unittest

from helper import (
    adjust, anchor, box, disc, five, glue, glyph, insertion, kern, leaders, listed, mark, move, nested, pack, penalty,
    put, rule, run, told,
)

MANY = 2 ** 63 - 1
STAY = [
    glyph(), kern(), glue(5, 6, 0, 4, 0), leaders(box(kern(1)), 1, five(1, 2, 0, 3, 0)), penalty(7), rule(1),
    box(glyph(), shift=3), disc([glyph()], [kern()], [glyph()]), anchor(4),
]


class Move(unittest.TestCase):

    def check(self, things, stay, moved):
        calls = [put(0, *things), put(1, kern(99)), move(0, 1), told(0), told(1)]
        self.assertEqual(run(*calls)[2:], [[len(moved)], listed(*stay), listed(*moved)])

    def test_each_kind(self):
        for thing in STAY:
            self.check([thing], [thing], [])
        for thing in (mark(3), insertion(box(), number=4, glue_numbers=five(1, 2, 3, 4, 0), depth=5, cost=6)):
            self.check([thing], [], [thing])
        self.check([adjust(kern(1), penalty(2))], [], [kern(1), penalty(2)])
        self.check([adjust()], [], [])

    def test_in_order(self):
        first, second = insertion(glyph(), number=1), insertion(number=2)
        things = [glyph(1), mark(1), first, glyph(2), adjust(kern(1), mark(2)), glyph(3), second, mark(3),
                  adjust(kern(2)), mark(1)]
        self.check(things, [glyph(1), glyph(2), glyph(3)],
                   [mark(1), first, kern(1), mark(2), second, mark(3), kern(2), mark(1)])

    def test_all_that_stays_stays_in_order(self):
        things = sum([[thing, mark(1)] for thing in STAY], [])
        self.check(things, STAY, [mark(1)] * len(STAY))

    def test_of_an_adjust_its_things_as_they_are(self):
        inner = STAY + [adjust(mark(1), kern(1)), mark(2), insertion(adjust(mark(3)))]
        self.check([kern(0), adjust(*inner), kern(9)], [kern(0), kern(9)], inner)

    def test_not_those_deeper(self):
        deeper = [mark(1), adjust(kern(1)), insertion(mark(1))]
        things = [box(*deeper), disc(deeper, deeper, deeper), leaders(box(*deeper)), box(box(*deeper), direction=1)]
        self.check(things, things, [])
        self.check([insertion(*deeper)], [], [insertion(*deeper)])

    def test_the_empty_list(self):
        self.check([], [], [])

    def test_takes_the_place_of_what_was(self):
        self.assertEqual(run(put(3, mark(1), kern(1)), put(4, *STAY), move(3, 4), told(4), move(3, 4), told(4),
                             told(3))[2:],
                         [[1], listed(mark(1)), [0], [0], listed(kern(1))])

    def test_other_lists_stay(self):
        things = [mark(1), kern(1)]
        self.assertEqual(run(put(0, *things), [5, 2, 0], move(0, 1), told(2))[3], listed(*things))

    def test_eight_deep(self):
        self.check([nested(8, insertion)], [], [nested(8, insertion)])
        self.check([nested(8, adjust)], [], [nested(7, adjust)])

    def test_long_lists(self):
        things = [mark(1)] * 500 + [kern(1)] * 499
        self.check(things, [kern(1)] * 499, [mark(1)] * 500)
        inner = [kern(1)] * 998
        self.assertEqual(len(listed(adjust(*inner))), 1999)
        self.check([adjust(*inner)], [], inner)

    def test_out_of_what_was_packed(self):
        answers = run(put(0, mark(1), glyph(1), adjust(rule(1, 2, 3))), move(0, 1), pack(0, 0), [5, 0, 1], told(0))
        self.assertEqual(answers[1:], [[2], [0, 0], [3],
                                       listed(box(glyph(1), width=10, height=7, depth=2), mark(1), rule(1, 2, 3))])


class Refused(unittest.TestCase):

    def test_wrong_lists(self):
        things = [mark(1), kern(1), adjust(kern(2))]
        for k, j in ((8, 1), (0, 8), (MANY, 1), (0, MANY), (8, 8), (MANY, MANY), (0, 0)):
            calls = [put(0, *things), put(1, mark(7)), move(k, j), told(0), told(1)]
            self.assertEqual(run(*calls)[2:], [[-1], listed(*things), listed(mark(7))])

    def test_into_itself(self):
        for k in range(8):
            self.assertEqual(run(put(k, kern(1)), move(k, k), told(k))[1:], [[-1], listed(kern(1))])
            self.assertEqual(run(move(k, k)), [[-1]])


if __name__ == "__main__":
    unittest.main()

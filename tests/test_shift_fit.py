"""shift: a box's shift. fit: how a list's first things fit as a column."""

import unittest

from helper import (
    GREATEST, LEAST, adjust, anchor, box, disc, fit, five, glue, glyph, insertion, kern, last, leaders, listed, mark,
    pack, penalty, places, put, rule, run, shift, size, told, unpack,
)

MANY = 2 ** 63 - 1
NO_BOXES = [
    glyph(), kern(), glue(), leaders(box(kern()), 0, five()), penalty(), rule(), disc([box()], [box()], [box()]),
    adjust(box()), mark(), insertion(box()), anchor(),
]


class Shift(unittest.TestCase):

    def test_the_box_has_that_shift(self):
        inner = [glyph(), box(shift=7)]
        for s in (5, -5, 0, LEAST, GREATEST):
            before = [box(*inner, direction=1, width=4, height=5, depth=6, order=2, numerator=-3, denominator=4,
                          shift=9)]
            after = [box(*inner, direction=1, width=4, height=5, depth=6, order=2, numerator=-3, denominator=4,
                         shift=s)]
            self.assertEqual(run(put(0, *before), shift(0, 0, s), told(0)), [[1], [0], listed(*after)])

    def test_the_one_asked_for_and_no_other(self):
        things = [box(width=1), kern(3), box(width=2), box(width=2), mark(1)]
        expected = things[:2] + [box(width=2, shift=-8)] + things[3:]
        self.assertEqual(run(put(7, *things), shift(7, 2, -8), told(7)), [[5], [0], listed(*expected)])

    def test_told_in_sizes(self):
        thing = box(width=4, height=5, depth=6)
        self.assertEqual(run(put(0, thing), shift(0, 0, 2), size(0, 0), size(0, 1), shift(0, 0, -2), size(0, 0),
                             size(0, 1))[1:],
                         [[0], [4, 3, 8], [6, 5, 6], [0], [4, 7, 4], [2, 5, 6]])

    def test_placed_in_a_row_and_in_a_column(self):
        thing = box(glyph(3), height=5, depth=6)
        for s in (2, -2):
            answers = run(put(0, thing), shift(0, 0, s), pack(0, 1, 0), pack(0, 2, 1), places(1, 0, 100, 50),
                          places(2, 0, 100, 50), places(0, 0, 100, 50))
            self.assertEqual(answers[4:], [[0, 3, 100, 50 + s], [0, 3, 100 + s, 50], [0, 3, 100, 50]])

    def test_lists_that_had_the_same_box_keep_it(self):
        thing = box(kern(1))
        calls = [put(0, box(thing)), unpack(0, 0, 1), [5, 2, 1], shift(1, 0, 9), told(0), told(1), told(2)]
        self.assertEqual(run(*calls)[3:],
                         [[0], listed(box(thing)), listed(box(kern(1), shift=9)), listed(thing)])

    def test_one_of_two_that_were_one(self):
        calls = [put(0, box(kern(1))), [5, 0, 0], shift(0, 1, 9), told(0)]
        self.assertEqual(last(*calls), listed(box(kern(1)), box(kern(1), shift=9)))

    def check_refused(self, number, things, k, i, s):
        self.assertEqual(run(put(0, *things), shift(k, i, s), told(0))[1:], [[number], listed(*things)])

    def test_no_box(self):
        for thing in NO_BOXES:
            with self.subTest(kind=thing[0]):
                self.check_refused(-4, [thing, box()], 0, 0, 3)

    def test_not_there(self):
        for i in (2, 3, MANY):
            self.check_refused(-4, [box(), box()], 0, i, 3)
        self.assertEqual(last(shift(0, 0, 3)), [-4])

    def test_wrong_numbers_come_first(self):
        for k, i, s in ((8, 0, 3), (MANY, 0, 3), (0, 0, LEAST - 1), (0, 0, GREATEST + 1), (0, 0, -2 ** 63),
                        (0, 0, MANY), (0, 1, GREATEST + 1), (0, 9, GREATEST + 1), (8, 9, 3)):
            self.check_refused(-1, [box(), kern()], k, i, s)


LINE = box(width=20, height=8, depth=2)
SPACE = glue(5, 6, 0, 4, 0)


class Fit(unittest.TestCase):

    def check(self, things, i, v, expected, m=-1):
        self.assertEqual(run(put(0, *things), fit(0, i, v, m), told(0))[1:], [expected, listed(*things)])

    def test_first_things(self):
        things = [LINE, SPACE, LINE, SPACE, LINE]
        self.check(things, 0, 0, [0, 0])
        self.check(things, 1, 8, [0, 0])
        self.check(things, 2, 15, [0, 0])
        self.check(things, 3, 23, [0, 0])
        self.check(things, 4, 30, [0, 0])
        self.check(things, 5, 38, [0, 0])
        # another by one
        self.check(things, 3, 26, [0, 12])
        self.check(things, 3, 21, [0, 12])
        self.check(things, 5, 44, [0, 12])

    def test_loose(self):
        things = [LINE, SPACE, LINE]
        for more, badness in ((1, 0), (2, 3), (3, 12), (6, 100), (7, 158), (27, 9112), (28, 10000), (900, 10000)):
            self.check(things, 3, 23 + more, [0, badness])

    def test_tight_and_too_full(self):
        things = [LINE, SPACE, LINE]
        for less, expected in ((1, [0, 1]), (2, [0, 12]), (3, [0, 42]), (4, [0, 100]), (5, [1, 1]), (6, [1, 2]),
                               (50, [1, 46])):
            self.check(things, 3, 23 - less, expected)

    def test_by_none(self):
        self.check([LINE, kern(3)], 2, 14, [0, 10000])
        self.check([LINE, kern(3)], 2, 13, [0, 0])
        self.check([LINE, kern(3)], 2, 12, [1, 1])
        self.check([], 0, 1, [0, 10000])
        self.check([], 0, -1, [1, 1])

    def test_by_the_orders_above_0(self):
        for order in (1, 2, 3):
            things = [LINE, glue(5, 1, order, 1, order), SPACE]
            self.check(things, 3, 1000, [0, 0])
            self.check(things, 3, -1000, [0, 0])

    def test_glue_behind_the_first_things_does_not_count(self):
        things = [LINE, glue(5, 1, 3, 1, 3)]
        self.check(things, 1, 9, [0, 10000])
        self.check(things, 1, 7, [1, 1])
        self.check(things, 2, 900, [0, 0])

    def test_leaders_count_like_glue(self):
        things = [LINE, leaders(rule(90, 90, 90), 0, five(5, 6, 0, 4, 0)), LINE]
        self.check(things, 3, 26, [0, 12])
        self.check(things, 3, 21, [0, 12])
        self.check(things, 3, 18, [1, 1])

    def test_depth_at_most(self):
        things = [LINE, SPACE, LINE]
        for m, height in ((-1, 23), (LEAST, 23), (0, 25), (1, 24), (2, 23), (3, 23), (GREATEST, 23)):
            self.check(things, 3, height, [0, 0], m)
            self.check(things, 3, height + 3, [0, 12], m)
            self.check(things, 3, height - 5, [1, 1], m)
        self.check(things, 2, 15, [0, 0], 0)

    def test_depth_of_the_last_of_the_first_things(self):
        things = [box(height=8, depth=2), mark(1), kern(0), rule(None, 1, 4)]
        self.check(things, 1, 8, [0, 0])
        self.check(things, 2, 8, [0, 0])
        self.check(things, 3, 10, [0, 0])
        self.check(things, 4, 11, [0, 0])
        self.check(things, 4, 12, [0, 0], 3)

    def test_height_below_0(self):
        self.check([kern(-9), SPACE], 2, -4, [0, 0])
        self.check([kern(-9), SPACE], 2, -1, [0, 12])
        self.check([kern(-9), SPACE], 2, -9, [1, 1])
        self.check([], 0, LEAST, [1, GREATEST])
        self.check([], 0, GREATEST, [0, 10000])

    def test_as_packed(self):
        things = [LINE, SPACE, rule(5, 3, 4), glue(3, 2, 0, 9, 0), LINE, kern(2)]
        for i in range(len(things) + 1):
            for v in range(-10, 80, 3):
                for m in (-1, 0, 1, 3):
                    calls = [put(0, *things), put(1, *things[:i]), fit(0, i, v, m), pack(1, 2, 1, 1, v, m)]
                    answers = run(*calls)
                    said = answers[3]
                    self.assertEqual(answers[2], [1 if said[0] == 3 else 0, said[1]])

    def test_far_beyond_a_length(self):
        things = [kern(GREATEST)] * 90
        self.check(things, 90, 0, [1, 90 * GREATEST])
        self.check([kern(LEAST)] * 90, 90, 0, [0, 10000])
        self.check(things + [glue(0, 0, 0, GREATEST, 0)], 91, 0, [1, 89 * GREATEST])

    def check_refused(self, number, k, i, v=10, m=-1):
        things = [LINE, SPACE]
        self.assertEqual(run(put(0, *things), fit(k, i, v, m), told(0))[1:], [[number], listed(*things)])

    def test_as_many_as_there_are_and_one_more(self):
        self.check([LINE, SPACE], 2, 15, [0, 0])
        for i in (3, 4, MANY):
            self.check_refused(-4, 0, i)
        self.assertEqual(run(fit(5, 0, 0), fit(5, 1, 0)), [[0, 0], [-4]])

    def test_wrong_numbers_come_first(self):
        for k in (8, MANY):
            self.check_refused(-1, k, 0)
            self.check_refused(-1, k, 9)
        for wrong in (LEAST - 1, GREATEST + 1, -2 ** 63, MANY):
            for i in (0, 2, 3):
                self.check_refused(-1, 0, i, v=wrong)
                self.check_refused(-1, 0, i, m=wrong)


if __name__ == "__main__":
    unittest.main()

"""places of leaders: where they draw the box or the rule that they repeat, and how often."""

import unittest

from helper import (
    GREATEST, LEAST, anchor, at_anchor, at_glyph, at_rule, box, five, glue, glyph, kern, leaders, leaves_of, rule,
)

IN_STEP, CENTRED, SPREAD = 0, 1, 2
WAYS = (IN_STEP, CENTRED, SPREAD)


def dot(size, direction=0, **given):
    """A box with one anchor at its left end (in a column at its top), of this size along the box around."""
    if direction == 0:
        return box(anchor(7), width=size, **given)
    return box(anchor(7), direction=1, depth=size, **given)


def drawn(way, before, space, size, direction=0):
    """Where the copies are, leaders standing behind so much, in rows or in columns."""
    space_numbers = space if isinstance(space, list) else five(space)
    thing = box(kern(before), leaders(dot(size, direction), way, space_numbers), direction=direction)
    numbers = leaves_of(thing)
    return [numbers[at + 2 + direction] for at in range(0, len(numbers), 4)]


class Copies(unittest.TestCase):

    def check(self, way, before, space, size, expected):
        for direction in (0, 1):
            self.assertEqual(drawn(way, before, space, size, direction), expected, direction)

    def test_in_step(self):
        self.check(IN_STEP, 0, 30, 10, [0, 10, 20])
        self.check(IN_STEP, 1, 30, 10, [10, 20])
        self.check(IN_STEP, 9, 30, 10, [10, 20])
        self.check(IN_STEP, 10, 30, 10, [10, 20, 30])
        self.check(IN_STEP, 11, 30, 10, [20, 30])
        self.check(IN_STEP, 0, 29, 10, [0, 10])
        self.check(IN_STEP, 7, 13, 10, [10])
        self.check(IN_STEP, 7, 12, 10, [])
        self.check(IN_STEP, 1, 10, 10, [])
        self.check(IN_STEP, 10, 10, 10, [10])
        self.check(IN_STEP, 10, 9, 10, [])

    def test_in_step_below_0(self):
        self.check(IN_STEP, -25, 40, 10, [-20, -10, 0])
        self.check(IN_STEP, -20, 40, 10, [-20, -10, 0, 10])
        self.check(IN_STEP, -21, 40, 10, [-20, -10, 0])
        self.check(IN_STEP, -19, 40, 10, [-10, 0, 10])
        self.check(IN_STEP, -1, 10, 10, [])
        self.check(IN_STEP, -1, 11, 10, [0])
        self.check(IN_STEP, -9, 11, 7, [-7])

    def test_centred(self):
        self.check(CENTRED, 3, 30, 10, [3, 13, 23])
        self.check(CENTRED, 3, 31, 10, [3, 13, 23])
        self.check(CENTRED, 3, 32, 10, [4, 14, 24])
        self.check(CENTRED, 3, 39, 10, [7, 17, 27])
        self.check(CENTRED, -3, 15, 10, [-1])
        self.check(CENTRED, 3, 10, 10, [3])
        self.check(CENTRED, 3, 9, 10, [])

    def test_spread(self):
        self.check(SPREAD, 3, 30, 10, [3, 13, 23])
        self.check(SPREAD, 3, 33, 10, [3, 13, 23])
        self.check(SPREAD, 3, 34, 10, [4, 15, 26])
        self.check(SPREAD, 3, 38, 10, [5, 17, 29])
        self.check(SPREAD, 3, 39, 10, [5, 17, 29])
        self.check(SPREAD, 3, 19, 10, [7])
        self.check(SPREAD, -30, 28, 10, [-28, -16])
        self.check(SPREAD, 3, 9, 10, [])
        self.check(SPREAD, 3, 10, 10, [3])

    def test_sixteen_and_seventeen(self):
        for way in WAYS:
            for times in (15, 16, 17, 18, 1000):
                self.check(way, 0, 10 * times, 10, [10 * copy for copy in range(min(times, 16))])

    def test_in_step_the_first_sixteen(self):
        self.check(IN_STEP, 5, 1000, 10, [10 + 10 * copy for copy in range(16)])
        self.check(IN_STEP, -505, 1000, 10, [-500 + 10 * copy for copy in range(16)])
        # there's room for sixteen, not for seventeen; then for seventeen
        self.check(IN_STEP, 5, 165, 10, [10 + 10 * copy for copy in range(16)])
        self.check(IN_STEP, 5, 175, 10, [10 + 10 * copy for copy in range(16)])

    def test_how_often_it_goes_in_counts_also_where_only_sixteen_are_drawn(self):
        # 17 of 10 go into 177: 7 is left, not 17 as it would be with 16
        self.check(CENTRED, 0, 177, 10, [3 + 10 * copy for copy in range(16)])
        self.check(CENTRED, 0, 1009, 10, [4 + 10 * copy for copy in range(16)])
        # 17 of 20 go into 359: 19 is left, 1 for each of the 18 spaces
        self.check(SPREAD, 0, 359, 20, [1 + 21 * copy for copy in range(16)])
        # 19 of 20 go into 398: 18 is left, less than 20 spaces
        self.check(SPREAD, 0, 398, 20, [20 * copy for copy in range(16)])
        self.check(SPREAD, 0, 16 * 20 + 17, 20, [1 + 21 * copy for copy in range(16)])

    def test_a_space_below_1(self):
        for way in WAYS:
            for space in (0, -1, -9, -10, -11, -20, -100, LEAST):
                for size in (1, 9, 10):
                    self.check(way, 0, space, size, [])
                    self.check(way, -50, space, size, [])

    def test_a_box_of_size_0_or_below(self):
        for way in WAYS:
            for size in (0, -1, -10, LEAST):
                self.check(way, 0, 50, size, [])
                self.check(way, 0, -50, size, [])
            self.check(way, 0, 1, 1, [0])

    def test_great_sizes(self):
        for way in WAYS:
            self.check(way, 0, GREATEST, GREATEST, [0])
            self.check(way, 0, GREATEST, 1, list(range(16)))
            self.check(way, GREATEST, GREATEST, GREATEST, [GREATEST])
            self.check(way, LEAST, GREATEST, GREATEST, [LEAST])


class Space(unittest.TestCase):

    def test_from_place_to_the_next_place(self):
        # both rounded: the leaders are at 10 + 0 (of 1/2), what's next at 10 + 30 + 1 (of 3/2): 31 between
        part = leaders(dot(31), CENTRED, five(30, 2, 0))
        around = dict(numerator=1, denominator=2)
        self.assertEqual(leaves_of(box(glue(10, 1, 0), part, anchor(8), **around)),
                         at_anchor(7, 10, 0) + at_anchor(8, 41, 0))
        # without the glue ahead: 0 to 30 + 1 (of 2/2)
        self.assertEqual(leaves_of(box(part, **around)), at_anchor(7, 0, 0))
        # 1/2 of 1 is 0: 30 between
        part = leaders(dot(31), CENTRED, five(30, 1, 0))
        self.assertEqual(leaves_of(box(part, **around)), [])
        self.assertEqual(leaves_of(box(glue(10, 1, 0), part, **around)), at_anchor(7, 10, 0))

    def test_shrunk(self):
        part = leaders(dot(9), CENTRED, five(10, 90, 0, 1, 0))
        around = dict(numerator=-1, denominator=2)
        # places 0, 9, 19 and 28 at the end: spaces of 9, 10, 9
        self.assertEqual(leaves_of(box(part, part, part, **around)),
                         at_anchor(7, 0, 0) + at_anchor(7, 9, 0) + at_anchor(7, 19, 0))
        self.assertEqual(leaves_of(box(part, order=1, numerator=-5)), at_anchor(7, 0, 0))

    def test_of_another_order(self):
        part = leaders(dot(10), IN_STEP, five(20, 50, 2, 50, 1))
        for order, numerator, times in ((2, 1, 7), (1, 1, 2), (1, -1, 0), (2, -1, 2)):
            self.assertEqual(len(leaves_of(box(part, order=order, numerator=numerator))), 4 * times)

    def test_stretched_in_a_column(self):
        part = leaders(dot(10, 1), SPREAD, five(20, 1, 3))
        self.assertEqual(leaves_of(box(kern(5), part, direction=1, order=3, numerator=14, height=100)),
                         sum([at_anchor(7, 0, -95 + 1 + 11 * copy) for copy in range(3)], []))

    def test_what_stands_behind(self):
        for way in WAYS:
            for repeated in (dot(10), rule(1, 1, 1)):
                numbers = leaves_of(box(leaders(repeated, way, five(25)), anchor(8)))
                self.assertEqual(numbers[-4:], at_anchor(8, 25, 0))


class Boxes(unittest.TestCase):

    def test_shifted_down_in_a_row(self):
        for s in (3, -3):
            repeated = box(glyph(1, 4, 4, 4), glyph(2), width=10, height=5, depth=6, shift=s)
            expected = []
            for x in (110, 120):
                expected += at_glyph(1, x, 50 + s) + at_glyph(2, x + 4, 50 + s)
            self.assertEqual(leaves_of(box(kern(5), leaders(repeated, IN_STEP, five(25))), 100, 50), expected)

    def test_shifted_right_in_a_column(self):
        for s in (3, -3):
            repeated = box(glyph(1), width=90, height=6, depth=4, shift=s)
            thing = box(kern(5), leaders(repeated, IN_STEP, five(25)), direction=1, height=40)
            # the top is at 10; copies' tops at 20 and 30, their lines 6 lower
            self.assertEqual(leaves_of(thing, 100, 50), at_glyph(1, 100 + s, 26) + at_glyph(1, 100 + s, 36))

    def test_in_a_row_the_width_counts_in_a_column_height_and_depth(self):
        repeated = box(anchor(1), width=7, height=4, depth=6)
        self.assertEqual(len(leaves_of(box(leaders(repeated, CENTRED, five(29))))), 4 * 4)
        self.assertEqual(len(leaves_of(box(leaders(repeated, CENTRED, five(29)), direction=1))), 4 * 2)
        repeated = box(anchor(1), width=0, height=14, depth=-4)
        self.assertEqual(leaves_of(box(leaders(repeated, CENTRED, five(29)))), [])
        self.assertEqual(leaves_of(box(leaders(repeated, CENTRED, five(29)), direction=1)),
                         at_anchor(1, 0, 4 + 14) + at_anchor(1, 0, 14 + 14))
        repeated = box(anchor(1), width=10, height=4, depth=-4)
        self.assertEqual(leaves_of(box(leaders(repeated, CENTRED, five(29)), direction=1)), [])

    def test_in_step_from_the_box_straight_around(self):
        inner = box(kern(3), leaders(dot(10), IN_STEP, five(30)), width=40)
        self.assertEqual(leaves_of(box(kern(4), inner), 1, 0), at_anchor(7, 15, 0) + at_anchor(7, 25, 0))
        inner = box(kern(3), leaders(dot(10, 1), IN_STEP, five(30)), direction=1, height=6)
        # its top is at 1 - 9 + 4
        self.assertEqual(leaves_of(box(kern(4), inner, direction=1, height=9), 0, 1),
                         at_anchor(7, 0, 6) + at_anchor(7, 0, 16))

    def test_columns_in_rows_of_leaders_and_rows_in_columns_of_leaders(self):
        column = box(glyph(1), kern(2), glyph(2), direction=1, width=10, height=3)
        self.assertEqual(leaves_of(box(leaders(column, IN_STEP, five(20)))),
                         at_glyph(1, 0, -3) + at_glyph(2, 0, -1) + at_glyph(1, 10, -3) + at_glyph(2, 10, -1))
        row = box(glyph(1, 5), glyph(2), height=10)
        self.assertEqual(leaves_of(box(leaders(row, IN_STEP, five(20)), direction=1)),
                         at_glyph(1, 0, 10) + at_glyph(2, 5, 10) + at_glyph(1, 0, 20) + at_glyph(2, 5, 20))

    def test_several_leaders_in_order(self):
        one = leaders(dot(10), IN_STEP, five(10))
        other = leaders(box(glyph(3), width=5), SPREAD, five(12))
        self.assertEqual(leaves_of(box(one, glyph(1, 4), other, anchor(9))),
                         at_anchor(7, 0, 0) + at_glyph(1, 10, 0) + at_glyph(3, 14, 0) + at_glyph(3, 19, 0)
                         + at_anchor(9, 26, 0))

    def test_a_rule_within_a_repeated_box_runs_in_that_box(self):
        repeated = box(rule(2), width=10, height=5, depth=6)
        self.assertEqual(leaves_of(box(leaders(repeated, IN_STEP, five(10)), height=50, depth=60)),
                         at_rule(0, 0, 2, 5, 6))


class Rules(unittest.TestCase):

    def test_in_a_row_as_wide_as_the_space(self):
        for way in WAYS:
            for width in (None, 0, -4, 7, 1000):
                part = leaders(rule(width, 5, 6), way, five(25))
                self.assertEqual(leaves_of(box(kern(3), part, anchor(1)), 100, 50),
                                 at_rule(103, 50, 25, 5, 6) + at_anchor(1, 128, 50))

    def test_running_sides_in_a_row(self):
        for height, depth, expected in ((None, 6, [30, 6]), (5, None, [5, 40]), (None, None, [30, 40])):
            part = leaders(rule(None, height, depth), 0, five(25))
            self.assertEqual(leaves_of(box(part, width=20, height=30, depth=40)), at_rule(0, 0, 25, *expected))

    def test_in_a_column_as_high_as_the_space(self):
        for way in WAYS:
            for height in (None, 0, 9, -9):
                for depth in (None, 0, 9, -9):
                    part = leaders(rule(4, height, depth), way, five(25))
                    thing = box(kern(3), part, anchor(1), direction=1, width=90, height=10)
                    # its top is at 50 - 10 + 3
                    self.assertEqual(leaves_of(thing, 100, 50),
                                     at_rule(100, 68, 4, 25, 0) + at_anchor(1, 100, 68))

    def test_a_running_width_in_a_column(self):
        part = leaders(rule(None, 1, 1), 0, five(25))
        self.assertEqual(leaves_of(box(part, direction=1, width=90)), at_rule(0, 25, 90, 25, 0))
        self.assertEqual(leaves_of(box(part, direction=1, width=0)), [])

    def test_with_the_space_as_it_is_set(self):
        part = leaders(rule(1, 1, 1), 0, five(25, 3, 0, 3, 0))
        for direction in (0, 1):
            for numerator, space in ((1, 26), (-1, 23), (0, 25)):
                thing = box(part, direction=direction, numerator=numerator, denominator=2)
                expected = at_rule(0, space, 1, space, 0) if direction else at_rule(0, 0, space, 1, 1)
                self.assertEqual(leaves_of(thing), expected)

    def test_no_area(self):
        for space in (0, -1, -50):
            for direction in (0, 1):
                self.assertEqual(leaves_of(box(leaders(rule(5, 60, 60), 0, five(space)), direction=direction)), [])
        self.assertEqual(leaves_of(box(leaders(rule(5, 6, -6), 0, five(9)))), [])
        self.assertEqual(leaves_of(box(leaders(rule(5, 6, -7), 0, five(9)))), [])
        self.assertEqual(leaves_of(box(leaders(rule(5, 6, -5), 0, five(1)))), at_rule(0, 0, 1, 6, -5))
        self.assertEqual(leaves_of(box(leaders(rule(), 0, five(9)))), [])
        for width in (0, -1):
            self.assertEqual(leaves_of(box(leaders(rule(width, 6, 6), 0, five(9)), direction=1, width=50)), [])
        self.assertEqual(leaves_of(box(leaders(rule(1, 0, 0), 0, five(1)), direction=1)), at_rule(0, 1, 1, 1, 0))


if __name__ == "__main__":
    unittest.main()

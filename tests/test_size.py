"""size: a row's and a column's size."""

import unittest

from helper import (
    GREATEST, LEAST, adjust, anchor, box, disc, five, glue, glyph, insertion, kern, last, leaders, mark, penalty, put,
    rule, run, size,
)

NOTHING = [penalty(10), adjust(box(width=9, height=9, depth=9)), mark(3), insertion(box(width=9, height=9, depth=9),
           glue_numbers=five(9, 9, 0, 9, 0), depth=9, cost=9), anchor(7)]


class Rows(unittest.TestCase):

    def check(self, expected, *things):
        self.assertEqual(last(put(0, *things), size(0, 0)), expected)

    def test_empty(self):
        self.check([0, 0, 0])

    def test_each_kind(self):
        self.check([10, 7, 2], glyph(1, 10, 7, 2))
        self.check([-3, 0, 0], kern(-3))
        self.check([5, 0, 0], glue(5, 100, 0, 100, 0))
        self.check([4, 5, 6], rule(4, 5, 6))
        self.check([4, 5, 6], box(kern(90), width=4, height=5, depth=6))
        for thing in NOTHING:
            self.check([0, 0, 0], thing)

    def test_widths_add_up_and_the_greatest_height_and_depth_count(self):
        self.check([25, 8, 6], glyph(1, 10, 7, 2), kern(-3), glyph(2, 11, 8, -1), *NOTHING, rule(4, 1, 6), glue(3))

    def test_zero_at_least_but_for_the_width(self):
        self.check([-10, 0, 0], glyph(1, -10, -7, -2))
        self.check([0, 0, 0], rule(0, -1, -1), box(height=-4, depth=-5))

    def test_shifted_boxes(self):
        self.check([4, 3, 8], box(width=4, height=5, depth=6, shift=2))
        self.check([4, 7, 4], box(width=4, height=5, depth=6, shift=-2))
        self.check([4, 0, 16], box(width=4, height=5, depth=6, shift=10))
        self.check([4, 15, 0], box(width=4, height=5, depth=6, shift=-10))

    def test_running_sides(self):
        self.check([0, 0, 0], rule())
        self.check([0, 5, 6], rule(None, 5, 6))
        self.check([4, 0, 6], rule(4, None, 6))
        self.check([4, 5, 0], rule(4, 5, None))

    def test_leaders(self):
        self.check([50, 5, 6], leaders(rule(4, 5, 6), 0, five(50, 1, 0, 1, 0)))
        self.check([50, 0, 0], leaders(rule(4), 1, five(50)))
        self.check([-50, 3, 8], leaders(box(width=4, height=5, depth=6, shift=2), 2, five(-50)))

    def test_discs_are_what_stands_in_them_unparted(self):
        self.check([13, 7, 2], disc([glyph(1, 90, 90, 90)], [glyph(1, 90, 90, 90)], [glyph(1, 10, 7, 2), kern(3)]))
        self.check([-10, 0, 0], disc([], [], [glyph(1, -10, -7, -2)]))
        inner = disc([kern(90)], [kern(90)], [box(width=4, height=5, depth=6, shift=2), glue(1, 9, 0, 9, 0)])
        self.check([6, 3, 8], disc([], [], [inner, kern(1)]))

    def test_as_wide_as_can_be(self):
        self.check([900 * GREATEST, GREATEST, GREATEST], glyph(1, GREATEST, GREATEST, GREATEST),
                   *[kern(GREATEST)] * 899)
        self.check([2 * LEAST, 0, 0], kern(LEAST), glue(LEAST))
        self.check([0, 2 * GREATEST, 0], box(height=GREATEST, depth=0, shift=LEAST))


class Columns(unittest.TestCase):

    def check(self, expected, *things):
        self.assertEqual(last(put(0, *things), size(0, 1)), expected)

    def test_empty(self):
        self.check([0, 0, 0])

    def test_each_kind(self):
        self.check([4, 5, 6], box(kern(90), width=4, height=5, depth=6))
        self.check([4, 5, 6], rule(4, 5, 6))
        self.check([0, -3, 0], kern(-3))
        self.check([0, 5, 0], glue(5, 100, 0, 100, 0))
        self.check([0, 0, 0], glyph(1, 10, 7, 2))
        self.check([0, 0, 0], disc([glyph()], [glyph()], [glyph(), box(width=1, height=1, depth=1)]))
        for thing in NOTHING:
            self.check([0, 0, 0], thing)

    def test_one_under_the_other(self):
        self.check([9, 41, 4], box(width=4, height=10, depth=6), glue(7), rule(9, 8, 2), kern(-3),
                   box(width=2, height=11, depth=4))

    def test_width_is_the_greatest_with_shift(self):
        self.check([14, 0, 0], box(width=4, shift=10), box(width=13))
        self.check([0, 0, 0], box(width=4, shift=-10), rule(-3), rule())
        self.check([9, 0, 0], box(width=4, shift=-10), rule(9))

    def test_leaders_are_as_wide_as_their_things_and_as_long_as_their_glue(self):
        self.check([14, 50, 0], leaders(box(width=4, height=5, depth=6, shift=10), 0, five(50, 1, 0, 1, 0)))
        self.check([4, 50, 0], leaders(rule(4, 5, 6), 1, five(50)))
        self.check([0, 50, 0], leaders(rule(None, 5, 6), 2, five(50)))
        self.check([0, -50, 0], leaders(box(width=4, shift=-10), 2, five(-50)))

    def test_shift_does_not_move_lines(self):
        self.check([104, 5, 6], box(width=4, height=5, depth=6, shift=100))

    def test_depth_is_the_last_boxs_or_rules(self):
        self.check([0, 16, 3], box(height=5, depth=6), box(height=5, depth=3))
        self.check([0, 14, 6], rule(None, 5, 4), rule(None, 5, 6))
        self.check([0, 12, 0], box(height=5, depth=7), rule(None, None, None))

    def test_depth_is_none_if_a_space_stands_behind(self):
        for space in (kern(0), glue(0), leaders(rule(0, 9, 9), 0, five(0)), leaders(box(depth=9), 0, five(0))):
            self.check([0, 11, 0], box(height=5, depth=6), space)
            self.check([0, 11, 0], box(height=5, depth=6), mark(1), space, penalty(1))
            self.check([0, 5, 6], space, box(height=5, depth=6))

    def test_depth_stays_if_others_stand_behind(self):
        self.check([0, 5, 6], box(height=5, depth=6), glyph(), disc([], [], [kern(3)]), *NOTHING)

    def test_depth_below_0(self):
        self.check([0, 5, -6], box(height=5, depth=-6))
        self.check([0, 6, -1], rule(None, 5, 1), rule(None, None, -1))

    def test_running_sides(self):
        self.check([0, 5, 0], rule(None, 5, None))
        self.check([4, 0, 6], rule(4, None, 6))

    def test_far_beyond_a_length(self):
        wide = box(width=GREATEST, height=GREATEST, depth=GREATEST, shift=GREATEST)
        self.check([2 * GREATEST, 179 * GREATEST, GREATEST], *[wide] * 90)

    def test_greatest_depth_of_a_box_is_not_told(self):
        self.check([0, 0, GREATEST], box(depth=GREATEST))


class Refused(unittest.TestCase):

    def test_refusals(self):
        for k, column in ((8, 0), (8, 1), (8, 2), (0, 2), (7, 2 ** 63 - 1), (2 ** 63 - 1, 0)):
            self.assertEqual(last(put(0, kern()), size(k, column)), [-1])

    def test_changes_nothing(self):
        self.assertEqual(run(put(7, kern(3)), size(7, 0), size(7, 1), size(7, 2), size(7, 0)),
                         [[1], [3, 0, 0], [0, 3, 0], [-1], [3, 0, 0]])

    def test_a_size_of_minus_one_is_an_answer(self):
        self.assertEqual(run(put(0, kern(-1)), size(0, 0)), [[1], [-1, 0, 0]])


if __name__ == "__main__":
    unittest.main()

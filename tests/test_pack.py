"""pack: glue set, what's said of the box, how big it is."""

import unittest
from fractions import Fraction

from helper import (
    GREATEST, LEAST, adjust, anchor, box, disc, five, glue, glyph, insertion, kern, last, leaders, listed, mark,
    nested, pack, penalty, put, rule, run, told, unpack,
)

ROW, COLUMN, BY_TOP = 0, 1, 2
AS_IT_COMES, TO_A_SIZE, BY_MORE = 0, 1, 2
NOTHING, LOOSE, TIGHT, TOO_FULL = 0, 1, 2, 3


class PackCase(unittest.TestCase):

    def packed(self, things, **how):
        """What's said, and the box's direction, size and setting."""
        answers = run(put(0, *things), pack(0, 1, **how), told(1), told(0))
        self.assertEqual(answers[3], listed(*things))
        numbers = answers[2]
        self.assertEqual(numbers[:2], [1, 6])
        self.assertEqual(numbers[9], 0, "a packed box isn't shifted")
        self.assertEqual(numbers[10:], listed(*things))
        return answers[1], numbers[2], numbers[3:6], numbers[6:9]

    def check(self, things, how, said, size, setting):
        self.assertEqual(self.packed(things, **how), (said, 1 if how.get("kind", 0) else 0, size, setting))


class Rows(PackCase):

    def test_as_it_comes(self):
        things = [glyph(1, 10, 7, 2), glue(5, 3, 2, 1, 1), box(width=4, height=5, depth=6, shift=2)]
        for a in (0, 1, -1, LEAST, GREATEST):
            self.check(things, dict(a=a), [NOTHING, 0], [19, 7, 8], [0, 0, 1])

    def test_to_its_own_size(self):
        self.check([kern(7), glue(3, 1, 0, 1, 0)], dict(how=TO_A_SIZE, a=10), [NOTHING, 0], [10, 0, 0], [0, 0, 1])

    def test_by_nothing_more(self):
        self.check([kern(7), glue(3, 1, 3, 1, 3)], dict(how=BY_MORE, a=0), [NOTHING, 0], [10, 0, 0], [0, 0, 1])

    def test_to_a_size_and_by_some_more_or_less_are_alike(self):
        things = [glyph(1, 10, 7, 2), glue(5, 6, 0, 4, 0)]
        for how in (dict(how=TO_A_SIZE, a=18), dict(how=BY_MORE, a=3)):
            self.check(things, how, [LOOSE, 12], [18, 7, 2], [0, 3, 6])
        for how in (dict(how=TO_A_SIZE, a=12), dict(how=BY_MORE, a=-3)):
            self.check(things, how, [TIGHT, 42], [12, 7, 2], [0, -3, 4])

    def test_to_a_size_of_0_and_below(self):
        self.check([kern(3), glue(1, 0, 0, 5, 0)], dict(how=TO_A_SIZE, a=0), [TIGHT, 51], [0, 0, 0], [0, -4, 5])
        self.check([kern(3), glue(1, 0, 0, 5, 0)], dict(how=TO_A_SIZE, a=-1), [TIGHT, 100], [-1, 0, 0], [0, -5, 5])

    def test_greatest_depth_is_of_no_matter(self):
        for m in (-1, 0, 1, LEAST, GREATEST):
            self.check([glyph(1, 10, 7, 2)], dict(m=m), [NOTHING, 0], [10, 7, 2], [0, 0, 1])

    def test_the_empty_list(self):
        self.check([], dict(), [NOTHING, 0], [0, 0, 0], [0, 0, 1])
        self.check([], dict(how=TO_A_SIZE, a=9), [LOOSE, 10000], [9, 0, 0], [0, 0, 1])
        self.check([], dict(how=TO_A_SIZE, a=-9), [TOO_FULL, 9], [-9, 0, 0], [0, 0, 1])

    def test_disc_unparted(self):
        things = [disc([kern(90)], [kern(80)], [glyph(1, 10, 7, 2), glue(1, 9, 3, 9, 3)]), glue(2, 4, 0, 4, 0)]
        self.check(things, dict(how=TO_A_SIZE, a=15), [LOOSE, 12], [15, 7, 2], [0, 2, 4])

    def test_what_stands_in_boxes_gives_no_way(self):
        for thing in (box(glue(1, 9, 3, 9, 3), width=4), adjust(glue(1, 9, 3, 9, 3)),
                      insertion(glue(0, 9, 3, 9, 3), glue_numbers=five(4, 9, 3, 9, 3)),
                      leaders(box(glue(1, 9, 3, 9, 3)), 0, five(0))):
            answer = self.packed([thing], how=BY_MORE, a=5)
            self.assertEqual((answer[0], answer[3]), ([LOOSE, 10000], [0, 0, 1]))
            answer = self.packed([thing], how=BY_MORE, a=-5)
            self.assertEqual((answer[0], answer[3]), ([TOO_FULL, 5], [0, 0, 1]))


class GlueSet(PackCase):

    def check_set(self, things, more, said, setting):
        answer = self.packed(things, how=BY_MORE, a=more)
        self.assertEqual((answer[0], answer[3]), (said, setting))

    def test_every_order_stretches(self):
        for order in (1, 2, 3):
            self.check_set([glue(5, 6, order), glue(5, 2, order)], 20, [NOTHING, 0], [order, 20, 8])
        self.check_set([glue(5, 6, 0), glue(5, 2, 0)], 4, [LOOSE, 12], [0, 4, 8])

    def test_every_order_shrinks(self):
        for order in (1, 2, 3):
            self.check_set([glue(5, 0, 0, 6, order), glue(5, 0, 0, 2, order)], -20, [NOTHING, 0], [order, -20, 8])
        self.check_set([glue(5, 0, 0, 6, 0), glue(5, 0, 0, 2, 0)], -4, [TIGHT, 12], [0, -4, 8])

    def test_the_greatest_order_comes_first(self):
        glues = [glue(0, 10 + order, order, 20 + order, order) for order in (0, 1, 2, 3)]
        for order in (0, 1, 2, 3):
            for things in (glues[:order + 1], glues[order::-1]):
                said = [NOTHING, 0] if order else [LOOSE, 2]
                self.check_set(things, 3, said, [order, 3, 10 + order])
                self.check_set(things, -3, [NOTHING, 0], [order, -3, 20 + order])

    def test_stretch_and_shrink_have_orders_of_their_own(self):
        self.check_set([glue(0, 7, 2, 9, 1)], 3, [NOTHING, 0], [2, 3, 7])
        self.check_set([glue(0, 7, 2, 9, 1)], -3, [NOTHING, 0], [1, -3, 9])

    def test_an_order_that_adds_up_to_0_or_less_is_passed_over(self):
        self.check_set([glue(0, 4, 3), glue(0, -4, 3), glue(0, 5, 1)], 3, [NOTHING, 0], [1, 3, 5])
        self.check_set([glue(0, 4, 3), glue(0, -5, 3), glue(0, 6, 0)], 3, [LOOSE, 12], [0, 3, 6])
        self.check_set([glue(0, 0, 0, 4, 3), glue(0, 0, 0, -4, 3), glue(0, 0, 0, 5, 1)], -3, [NOTHING, 0], [1, -3, 5])
        self.check_set([glue(0, 0, 0, 4, 2), glue(0, 0, 0, -9, 2), glue(0, 0, 0, 6, 0)], -3, [TIGHT, 12], [0, -3, 6])

    def test_a_stretch_below_0_is_taken_from_its_order(self):
        self.check_set([glue(0, 9, 0), glue(0, -3, 0)], 3, [LOOSE, 12], [0, 3, 6])
        self.check_set([glue(0, 9, 2), glue(0, -3, 2)], 3, [NOTHING, 0], [2, 3, 6])
        self.check_set([glue(0, -9, 0)], 3, [LOOSE, 10000], [0, 0, 1])
        self.check_set([glue(0, 0, 0, -9, 0)], -3, [TOO_FULL, 3], [0, 0, 1])

    def test_an_order_that_adds_up_to_1_counts(self):
        for order in (1, 2, 3):
            self.check_set([glue(0, 1, order, 1, order), glue(0, 9, 0, 9, 0)], 3, [NOTHING, 0], [order, 3, 1])
            self.check_set([glue(0, 1, order, 1, order), glue(0, 9, 0, 9, 0)], -3, [NOTHING, 0], [order, -3, 1])
        self.check_set([glue(0, 1, 0, 1, 0)], 1, [LOOSE, 100], [0, 1, 1])
        self.check_set([glue(0, 1, 0, 1, 0)], -1, [TIGHT, 100], [0, -1, 1])

    def test_leaders_count_like_glue(self):
        things = [glue(0, 2, 0, 3, 0), leaders(rule(), 0, five(0, 4, 0, 5, 0)), leaders(box(), 2, five(0, 1, 0, 1, 0))]
        self.check_set(things, 7, [LOOSE, 100], [0, 7, 7])
        self.check_set(things, -9, [TIGHT, 100], [0, -9, 9])
        self.check_set([glue(0, 2, 0), leaders(rule(), 0, five(0, 4, 1))], 7, [NOTHING, 0], [1, 7, 4])

    def test_not_shortened(self):
        self.check_set([glue(0, 100, 0, 100, 0)], 50, [LOOSE, 12], [0, 50, 100])
        self.check_set([glue(0, 100, 0, 100, 0)], -50, [TIGHT, 12], [0, -50, 100])
        self.check_set([glue(0, 100, 3, 100, 3)], 100, [NOTHING, 0], [3, 100, 100])

    def test_nothing_gives_way(self):
        for things in ([], [glyph(), kern(3), penalty(), rule(1, 1, 1), mark(), anchor()], [glue(5)]):
            self.check_set(things, 1, [LOOSE, 10000], [0, 0, 1])
            self.check_set(things, -1, [TOO_FULL, 1], [0, 0, 1])
            self.check_set(things, 0, [NOTHING, 0], [0, 0, 1])

    def test_stretch_does_not_shrink_nor_shrink_stretch(self):
        self.check_set([glue(0, 5, 3, 0, 0)], -4, [TOO_FULL, 4], [0, 0, 1])
        self.check_set([glue(0, 0, 0, 5, 3)], 4, [LOOSE, 10000], [0, 0, 1])

    def test_too_full(self):
        self.check_set([glue(0, 0, 0, 5, 0)], -5, [TIGHT, 100], [0, -5, 5])
        self.check_set([glue(0, 0, 0, 5, 0)], -6, [TOO_FULL, 1], [0, -5, 5])
        self.check_set([glue(0, 0, 0, 5, 0)], -100, [TOO_FULL, 95], [0, -5, 5])
        self.check_set([glue(0, 0, 0, 5, 0), glue(0, 0, 0, -2, 0)], -100, [TOO_FULL, 97], [0, -3, 3])

    def test_badness_is_the_whole_part(self):
        for more, badness in ((1, 0), (21, 0), (22, 1), (27, 1), (28, 2), (50, 12), (99, 97), (100, 100), (101, 103)):
            said = [LOOSE, badness] if badness else [NOTHING, 0]
            self.check_set([glue(0, 100, 0)], more, said, [0, more, 100])
            if more <= 100:
                said = [TIGHT, badness] if badness else [NOTHING, 0]
                self.check_set([glue(0, 0, 0, 100, 0)], -more, said, [0, -more, 100])

    def test_badness_at_10000(self):
        for more, badness in ((4641, 9996), (4642, 10000), (4643, 10000), (10 ** 9, 10000)):
            self.assertEqual(min(10000, 100 * more ** 3 // 1000 ** 3), badness)
            self.check_set([glue(0, 1000, 0)], more, [LOOSE, badness], [0, more, 1000])

    def test_badness_just_below_10000(self):
        total = GREATEST // 5
        more = next(n for n in range(total * 4641 // 1000, GREATEST) if 100 * n ** 3 >= 10000 * total ** 3)
        self.check_set([glue(0, total, 0)], more - 1, [LOOSE, 9999], [0, more - 1, total])
        self.check_set([glue(0, total, 0)], more, [LOOSE, 10000], [0, more, total])

    def test_great_numbers_are_exact(self):
        things = [kern(LEAST)] * 100 + [glue(0, GREATEST, 0, GREATEST, 0)] * 100
        more = 100 * GREATEST - 1
        self.check(things, dict(how=TO_A_SIZE, a=-1), [LOOSE, 99], [-1, 0, 0], [0, more, 100 * GREATEST])
        things = [kern(GREATEST)] * 100 + [glue(0, GREATEST, 0, GREATEST, 0)] * 100
        self.check(things, dict(how=TO_A_SIZE, a=1), [TIGHT, 99], [1, 0, 0], [0, -more, 100 * GREATEST])
        self.check(things, dict(how=TO_A_SIZE, a=0), [TIGHT, 100], [0, 0, 0], [0, -more - 1, 100 * GREATEST])
        self.check(things, dict(how=TO_A_SIZE, a=-1), [TOO_FULL, 1], [-1, 0, 0],
                   [0, -100 * GREATEST, 100 * GREATEST])

    def test_where_glue_could_be_set_the_end_is_where_it_should_be(self):
        things = [kern(10), glue(3, 7, 0, 4, 0), glyph(1, 20, 1, 1), glue(-2, 6, 0, 9, 0), glue(1, 11, 0, 3, 0)]
        for wanted in range(16, 120):
            said, unused, size, setting = self.packed(things, how=TO_A_SIZE, a=wanted)
            give = 24 if setting[1] > 0 else 16
            self.assertEqual(32 + Fraction(setting[1], setting[2]) * give, wanted)
            self.assertEqual(size[0], wanted)
            self.assertNotEqual(said[0], TOO_FULL)


class Columns(PackCase):

    THINGS = [box(width=4, height=10, depth=6, shift=3), glue(5, 6, 0, 4, 0), rule(9, 8, 7)]

    def test_as_it_comes(self):
        self.check(self.THINGS, dict(kind=COLUMN, a=77), [NOTHING, 0], [9, 29, 7], [0, 0, 1])

    def test_to_a_height(self):
        self.check(self.THINGS, dict(kind=COLUMN, how=TO_A_SIZE, a=32), [LOOSE, 12], [9, 32, 7], [0, 3, 6])
        self.check(self.THINGS, dict(kind=COLUMN, how=TO_A_SIZE, a=27), [TIGHT, 12], [9, 27, 7], [0, -2, 4])
        self.check(self.THINGS, dict(kind=COLUMN, how=TO_A_SIZE, a=20), [TOO_FULL, 5], [9, 20, 7], [0, -4, 4])

    def test_by_some_more_or_less(self):
        self.check(self.THINGS, dict(kind=COLUMN, how=BY_MORE, a=3), [LOOSE, 12], [9, 32, 7], [0, 3, 6])
        self.check(self.THINGS, dict(kind=COLUMN, how=BY_MORE, a=-2), [TIGHT, 12], [9, 27, 7], [0, -2, 4])

    def test_greatest_depth(self):
        for m, height, depth in ((LEAST, 29, 7), (-1, 29, 7), (0, 36, 0), (1, 35, 1), (6, 30, 6), (7, 29, 7),
                                 (8, 29, 7), (GREATEST, 29, 7)):
            self.check(self.THINGS, dict(kind=COLUMN, m=m), [NOTHING, 0], [9, height, depth], [0, 0, 1])

    def test_greatest_depth_counts_before_glue_is_set(self):
        self.check(self.THINGS, dict(kind=COLUMN, how=TO_A_SIZE, a=36, m=3), [LOOSE, 12], [9, 36, 3], [0, 3, 6])
        self.check(self.THINGS, dict(kind=COLUMN, how=BY_MORE, a=3, m=3), [LOOSE, 12], [9, 36, 3], [0, 3, 6])
        self.check(self.THINGS, dict(kind=COLUMN, how=TO_A_SIZE, a=33, m=3), [NOTHING, 0], [9, 33, 3], [0, 0, 1])

    def test_a_depth_below_0_is_below_any_greatest(self):
        things = [box(width=4, height=10, depth=-6)]
        for m in (-1, 0, 5):
            self.check(things, dict(kind=COLUMN, m=m), [NOTHING, 0], [4, 10, -6], [0, 0, 1])

    def test_glyphs_and_discs_are_nothing(self):
        self.check([glyph(), disc([], [], [glyph()])], dict(kind=COLUMN), [NOTHING, 0], [0, 0, 0], [0, 0, 1])

    def test_the_empty_list(self):
        self.check([], dict(kind=COLUMN), [NOTHING, 0], [0, 0, 0], [0, 0, 1])
        self.check([], dict(kind=COLUMN, how=TO_A_SIZE, a=5), [LOOSE, 10000], [0, 5, 0], [0, 0, 1])

    def test_leaders_in_a_column(self):
        things = [box(height=3, depth=2), leaders(rule(8, 1, 1), 0, five(10, 5, 1, 5, 1))]
        self.check(things, dict(kind=COLUMN, how=TO_A_SIZE, a=25), [NOTHING, 0], [8, 25, 0], [1, 10, 5])


class ColumnsByTheirTop(PackCase):

    THINGS = Columns.THINGS

    def test_first_a_box(self):
        self.check(self.THINGS, dict(kind=BY_TOP), [NOTHING, 0], [9, 10, 26], [0, 0, 1])

    def test_first_and_alone(self):
        self.check([box(width=4, height=10, depth=6)], dict(kind=BY_TOP), [NOTHING, 0], [4, 10, 6], [0, 0, 1])
        self.check([rule(4, 10, 6)], dict(kind=BY_TOP, how=BY_MORE, a=5), [LOOSE, 10000], [4, 10, 11], [0, 0, 1])
        self.check([box(height=-3, depth=5)], dict(kind=BY_TOP, m=0), [NOTHING, 0], [0, -3, 5], [0, 0, 1])

    def test_first_a_rule(self):
        self.check([rule(9, 8, 7), kern(3)], dict(kind=BY_TOP), [NOTHING, 0], [9, 8, 10], [0, 0, 1])
        self.check([rule(9, None, 7), kern(3)], dict(kind=BY_TOP), [NOTHING, 0], [9, 0, 10], [0, 0, 1])

    def test_first_something_else(self):
        tail = box(width=1, height=5, depth=4)
        for first, more in ((kern(3), 3), (glue(3, 9, 0), 3), (leaders(box(height=6), 0, five(3)), 3), (mark(), 0),
                            (penalty(5), 0), (glyph(), 0), (disc([], [], [glyph()]), 0), (anchor(), 0),
                            (adjust(tail), 0), (insertion(tail), 0)):
            self.check([first, tail], dict(kind=BY_TOP), [NOTHING, 0], [1, 0, 9 + more], [0, 0, 1])

    def test_the_empty_list(self):
        self.check([], dict(kind=BY_TOP), [NOTHING, 0], [0, 0, 0], [0, 0, 1])
        self.check([], dict(kind=BY_TOP, how=BY_MORE, a=5), [LOOSE, 10000], [0, 0, 5], [0, 0, 1])

    def test_a_size_is_reckoned_from_the_last_line(self):
        self.check(self.THINGS, dict(kind=BY_TOP, how=TO_A_SIZE, a=32), [LOOSE, 12], [9, 10, 29], [0, 3, 6])
        self.check(self.THINGS, dict(kind=BY_TOP, how=BY_MORE, a=-2), [TIGHT, 12], [9, 10, 24], [0, -2, 4])

    def test_the_greatest_depth_too(self):
        self.check(self.THINGS, dict(kind=BY_TOP, m=2), [NOTHING, 0], [9, 10, 26], [0, 0, 1])
        self.check(self.THINGS, dict(kind=BY_TOP, how=TO_A_SIZE, a=37, m=2), [LOOSE, 12], [9, 10, 29], [0, 3, 6])

    def test_depth_may_come_out_below_0(self):
        self.check([box(width=1, height=10, depth=0), kern(-30)], dict(kind=BY_TOP), [NOTHING, 0], [1, 10, -30],
                   [0, 0, 1])


class Lists(unittest.TestCase):

    def test_into_itself(self):
        self.assertEqual(run(put(2, kern(4)), pack(2, 2), told(2)), [[1], [0, 0], listed(box(kern(4), width=4))])

    def test_into_another_takes_its_place(self):
        self.assertEqual(run(put(2, kern(4)), put(3, mark(1), mark(2)), pack(2, 3), told(2), told(3))[3:],
                         [listed(kern(4)), listed(box(kern(4), width=4))])

    def test_a_box_in_a_box(self):
        self.assertEqual(last(put(0, kern(4)), pack(0, 0), pack(0, 0, kind=1, how=1, a=3), told(0)),
                         listed(box(box(kern(4), width=4), direction=1, width=4, height=3)))

    def test_packed_things_keep_their_shift(self):
        inner = box(width=4, height=5, depth=6, shift=2)
        self.assertEqual(last(put(0, inner), pack(0, 1), told(1)), listed(box(inner, width=4, height=3, depth=8)))


class Refused(unittest.TestCase):

    def check_refused(self, number, *things, **how):
        calls = [put(0, *things), put(1, mark(5)), pack(0, how.pop("j", 1), **how), told(0), told(1)]
        self.assertEqual(run(*calls)[2:], [[number], listed(*things), listed(mark(5))])

    def test_wrong_numbers(self):
        many = 2 ** 63 - 1
        for wrong in (8, many):
            self.assertEqual(run(put(1, mark(5)), pack(wrong, 1), told(1))[1:], [[-1], listed(mark(5))])
            self.check_refused(-1, kern(), j=wrong)
        for wrong in (3, many):
            self.check_refused(-1, kern(), kind=wrong)
            self.check_refused(-1, kern(), how=wrong)
        for wrong in (LEAST - 1, GREATEST + 1, -2 ** 63, many):
            for kind in (0, 1, 2):
                for how in (0, 1, 2):
                    self.check_refused(-1, kern(), kind=kind, how=how, a=wrong)
                    self.check_refused(-1, kern(), kind=kind, how=how, m=wrong)

    def test_the_least_and_the_greatest_length(self):
        for length in (LEAST, GREATEST):
            self.assertEqual(last(pack(0, 0, how=1, a=length, m=length), told(0)), listed(box(width=length)))
            self.assertEqual(last(pack(0, 0, kind=1, how=1, a=length, m=length), told(0)),
                             listed(box(direction=1, height=length)))

    def test_too_deep(self):
        self.assertEqual(run(put(0, nested(7)), pack(0, 1), told(1)), [[1], [0, 0], listed(nested(8))])
        self.check_refused(-6, nested(8))
        self.check_refused(-6, kern(), nested(8, adjust), kern())
        self.check_refused(-6, leaders(nested(7)))

    def test_too_many_numbers(self):
        things = [glyph(1, 0, 0, 0)] + [kern(0)] * 992
        self.assertEqual(len(listed(*things)), 1990)
        self.assertEqual(run(put(0, *things), pack(0, 1), told(1)), [[993], [0, 0], listed(box(*things))])
        self.check_refused(-6, *[kern(0)] * 995)
        self.check_refused(-6, *[kern(0)] * 995, kind=1, how=1, a=7)

    def test_sizes_beyond_a_length(self):
        for sign in (1, -1):
            self.check_refused(-6, kern(sign * GREATEST), kern(sign))
            self.check_refused(-6, kern(sign * GREATEST), kern(sign), kind=1)
            self.check_refused(-6, kern(sign * GREATEST), how=2, a=sign)
            self.check_refused(-6, kern(sign * GREATEST), kind=1, how=2, a=sign)
        self.check_refused(-6, box(height=GREATEST, shift=-1))
        self.check_refused(-6, box(depth=GREATEST, shift=1))
        self.check_refused(-6, box(width=GREATEST, shift=1), kind=1)
        self.check_refused(-6, box(height=GREATEST, depth=1), kern(0), kind=1)
        self.check_refused(-6, box(height=GREATEST, depth=1), kind=1, m=0)
        self.check_refused(-6, kern(GREATEST), kern(1), box(), kind=2)
        self.check_refused(-6, box(height=-2), kern(GREATEST), kern(1), kind=2)

    def test_the_size_that_counts_is_the_packed_boxs(self):
        things = [box(height=-2), kern(GREATEST), kern(1)]
        self.assertEqual(last(put(0, *things), pack(0, 1, kind=1)), [0, 0])
        things = [box(height=GREATEST), kern(1)]
        self.check_refused(-6, *things, kind=1)
        self.assertEqual(last(put(0, *things), pack(0, 1, kind=2), told(1)),
                         listed(box(*things, direction=1, height=GREATEST, depth=1)))

    def test_what_is_in_range_but_for_its_list(self):
        self.assertEqual(run(put(0, kern(GREATEST), kern(GREATEST)), pack(0, 1, how=1, a=3))[1:],
                         [[3, 2 * GREATEST - 3]])

    def test_wrong_numbers_come_first(self):
        self.check_refused(-1, nested(8), how=3)
        self.check_refused(-1, kern(GREATEST), kern(1), m=GREATEST + 1)


class Unpacked(unittest.TestCase):

    def test_packed_and_unpacked_a_list_is_as_it_was(self):
        things = [
            glyph(), kern(), glue(5, 6, 0, 4, 0), leaders(box(kern(1)), 1, five(1, 2, 0, 3, 0)), penalty(7), rule(1),
            box(glyph(), shift=3), disc([glyph()], [kern()], [glyph()]), adjust(mark()), mark(3), insertion(box()),
            anchor(4),
        ]
        for kind in (0, 1, 2):
            for how in (0, 1, 2):
                for a in (-20, -3, 0, 4, 1000):
                    for m in (-1, 0, 1):
                        calls = [put(0, *things), pack(0, 1, kind, how, a, m), unpack(1, 0, 2), told(2)]
                        self.assertEqual(run(*calls)[2:], [[12], listed(*things)])


if __name__ == "__main__":
    unittest.main()

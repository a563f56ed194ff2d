"""cut: a column's breaks, their costs, the break taken, the upper part and the rest."""

import unittest

from helper import (
    GREATEST, LEAST, adjust, anchor, box, cut, disc, fit, five, glue, glyph, insertion, kern, last, leaders, listed,
    mark, nested, penalty, put, rule, run, told,
)

MANY = 2 ** 63 - 1
TEN = box(width=5, height=10)
RUBBER = glue(0, 10, 0)
TOP = glue(0)


class CutCase(unittest.TestCase):

    def check(self, things, v, penalty_told, upper, rest, d=-1, g=None):
        calls = [put(0, *things), cut(0, 1, 2, v, d, five(0) if g is None else g), told(1), told(2), told(0)]
        self.assertEqual(run(*calls)[1:], [[penalty_told], listed(*upper), listed(*rest), listed(*things)])

    def check_at(self, place, things, v, d=-1):
        """Cut at the thing at this place (at the end, if there's none); all behind it begins with a box."""
        behind = things[place + 1:]
        told_penalty = things[place][1] if place < len(things) and things[place][0] == 4 else 0
        self.check(things, v, told_penalty, things[:place], [TOP] + behind if behind else [], d)


class Breaks(CutCase):

    def test_at_glue(self):
        things = [TEN, glue(3), TEN, glue(3), TEN]
        self.check_at(1, things, 10)
        self.check_at(3, things, 23)
        self.check_at(5, things, 36)

    def test_at_leaders(self):
        for repeated in (rule(90, 90, 90), box(height=90)):
            space = leaders(repeated, 1, five(3))
            things = [TEN, space, TEN, space, TEN]
            self.check_at(1, things, 10)
            self.check_at(3, things, 23)

    def test_glue_behind_each_kind(self):
        for before in (TEN, rule(1, 10, 0), glyph(), disc(), adjust(), mark(), insertion(), anchor()):
            things = [TEN, before, glue(0), TEN]
            height = 20 if before[0] in (5, 6) else 10
            self.check_at(2, things, height)

    def test_no_break_at_glue_behind_these(self):
        for space in (glue(0), leaders(rule(), 0, five(0))):
            for before in (glue(0), leaders(rule(), 0, five(0)), kern(0), penalty(10000)):
                # a break at the space would be taken: for 0, not for 50, and as the last
                things = [TEN, penalty(50), before, space, TEN]
                expected = 2 if before[0] == 1 else 1
                self.check(things, 10, 0 if expected == 2 else 50, things[:expected], [TOP, TEN])

    def test_no_break_at_glue_with_nothing_before(self):
        for space in (glue(7), leaders(rule(), 0, five(7))):
            things = [space, TEN, glue(0), TEN]
            self.check_at(2, things, 17)
            # the first break is too full, and that's not the glue at the top
            self.check_at(2, things, 3)
            # but behind one thing it may be
            self.check_at(1, [mark(1), space, TEN], 0)
            self.check_at(1, [TEN, space, TEN], 10)

    def test_at_a_kern_if_glue_or_leaders_come_next(self):
        for space in (glue(90), leaders(rule(), 0, five(90))):
            things = [TEN, kern(3), space, TEN]
            self.check(things, 10, 0, [TEN], [TOP, TEN])
            things = [kern(3), space, TEN]
            self.check(things, 0, 0, [], [TOP, TEN])

    def test_no_break_at_a_kern_before_others(self):
        for behind in (TEN, rule(1, 10, 0), kern(5), penalty(10000), glyph(), disc(), adjust(), mark(), insertion(),
                       anchor()):
            things = [TEN, kern(3), behind, TEN, TEN]
            # the end is the first break
            self.check(things, 10, 0, things, [])
        self.check([TEN, kern(3)], 10, 0, [TEN, kern(3)], [])

    def test_at_a_penalty(self):
        for cost in (9999, 0, -1, -9999):
            self.check_at(1, [TEN, penalty(cost), TEN], 10)
        for before in (TEN, kern(0), glue(0), penalty(10000), mark(3)):
            self.check_at(2, [TEN, before, penalty(-7), TEN], 20 if before == TEN else 10)
        self.check_at(0, [penalty(5), TEN], 0)

    def test_no_break_at_a_penalty_of_10000_or_more(self):
        for cost in (10000, 10001, GREATEST):
            things = [TEN, penalty(cost), TEN]
            self.check(things, 10, 0, things, [])

    def test_at_the_end(self):
        self.check([], 0, 0, [], [])
        self.check([], 5, 0, [], [])
        self.check([], -5, 0, [], [])
        self.check([TEN], 10, 0, [TEN], [])
        self.check([TEN], 5, 0, [TEN], [])
        self.check([TEN, RUBBER, TEN], 20, 0, [TEN, RUBBER, TEN], [])

    def test_no_break_within_things(self):
        things = [box(TEN, penalty(-10000), TEN, direction=1, height=20), insertion(TEN, penalty(-10000), TEN),
                  adjust(penalty(-10000)), disc([penalty(-10000)])]
        self.check(things, 0, 0, things, [])


class Costs(CutCase):

    def test_the_least(self):
        # to 35: by none, 15 of 10, 5 of 20, too full
        things = [TEN, RUBBER, TEN, RUBBER, TEN, RUBBER, TEN]
        self.assertEqual(run(put(0, *things), *[fit(0, i, 35) for i in (1, 3, 5, 7)])[1:],
                         [[0, 10000], [0, 337], [0, 1], [1, 5]])
        self.check_at(5, things, 35)
        # with a penalty at the 337, against the 1 behind it; at -336 they're equal
        things = [TEN, RUBBER, TEN, penalty(-337), RUBBER, TEN, RUBBER, TEN]
        self.check(things, 35, -337, things[:3], [TOP] + things[5:])
        for cost in (-336, -335, 0, 50):
            things[3] = penalty(cost)
            self.check(things, 35, 0, things[:6], [TOP] + things[7:])

    def test_penalty_and_badness_together(self):
        # 3 and 8 of 10: badness 2 and 51
        def column(first, second):
            return [TEN, RUBBER, rule(1, 12, 0), penalty(first), rule(1, 5, 0), penalty(second), TEN]
        for first, second, place in ((0, 48, 5), (0, 49, 5), (0, 50, 3), (10, 60, 3), (10, 58, 5), (-60, -10, 3),
                                     (60, 100, 5), (9999, 9998, 5), (-9999, -9999, 5)):
            things = column(first, second)
            self.assertEqual(run(put(0, *things), fit(0, 3, 30), fit(0, 5, 30))[1:], [[0, 51], [0, 2]])
            self.check_at(place, things, 30)

    def test_of_equal_costs_the_last(self):
        things = [TEN, penalty(4), penalty(4), penalty(4), TEN]
        self.check(things, 10, 4, things[:3], [TOP, TEN])
        things = [TEN, penalty(4), penalty(4), penalty(5), TEN]
        self.check(things, 10, 4, things[:2], [TOP, TEN])
        things = [TEN, RUBBER, rule(1, 12, 0), penalty(0), rule(1, 5, 0), penalty(49), TEN]
        self.check_at(5, things, 30)
        # all 100000
        things = [TEN, glue(0), TEN, glue(0), TEN, glue(0), TEN]
        self.check_at(5, things, 35)
        self.check_at(7, things, 1000)

    def test_100000_if_badness_is_10000(self):
        # the penalty doesn't count then: not -9999 either
        things = [TEN, penalty(-9999), TEN, penalty(9999), TEN]
        self.check_at(3, things, 25)
        things = [TEN, penalty(-9999), TEN, RUBBER, penalty(9999), TEN]
        # at 4: 5 of 10 is 12, with 9999 less than 100000
        self.check_at(4, things, 25)
        things = [TEN, penalty(-9999), TEN, penalty(9999), TEN, penalty(300), TEN]
        self.check_at(5, things, 35)

    def test_badness_of_9999_and_10000(self):
        total = GREATEST // 5
        more = next(n for n in range(total * 4641 // 1000, GREATEST) if 100 * n ** 3 >= 10000 * total ** 3)
        tall = box(height=GREATEST)
        for stretched_by, badness, place in ((more - 1, 9999, 4), (more, 10000, 6)):
            things = [mark(1), penalty(10000), glue(0, total, 0), kern(-stretched_by), penalty(9999), kern(-1),
                      penalty(-9999), tall]
            self.assertEqual(run(put(0, *things), fit(0, 4, 0), fit(0, 6, 0), fit(0, 8, 0))[1:],
                             [[0, badness], [0, 10000], [1, GREATEST - stretched_by - 1]])
            # 19998 and 100000; or 100000 both, and the last is taken
            self.check(things, 0, things[place][1], things[:place], [TOP, tall])

    def test_forced(self):
        for cost in (-10000, -10001, LEAST):
            things = [TEN, penalty(cost), TEN, RUBBER, TEN]
            # that's its cost alone, however badly it fits; what's behind isn't looked at
            for v in (10, 20, 30, 1000):
                self.check_at(1, things, v)

    def test_a_forced_ones_cost_is_its_penalty_alone(self):
        # 0 with -9999; then 12, that would make -9988 together
        things = [TEN, glue(0, 0, 0, 10, 0), TEN, penalty(-9999), rule(1, 5, 0), penalty(-10000), TEN]
        self.check_at(5, things, 20)
        things[5] = penalty(-9999)
        self.check_at(3, things, 20)

    def test_nearly_forced(self):
        things = [TEN, penalty(-9999), TEN, RUBBER, TEN]
        self.check_at(1, things, 10)
        self.check_at(3, things, 20)
        self.check_at(5, things, 30)

    def test_the_first_forced_one(self):
        things = [TEN, penalty(-10000), TEN, penalty(-20000), TEN]
        self.check_at(1, things, 20)
        self.check_at(1, things, 1000)

    def test_forced_against_what_was_before(self):
        # 0 and then -10000
        things = [TEN, RUBBER, TEN, penalty(0), mark(1), penalty(-10000), TEN]
        self.check(things, 20, -10000, things[:5], [TOP, TEN])
        # forced, by 10000
        things = [TEN, penalty(-9999), box(), penalty(-10000), TEN]
        self.check(things, 10, -10000, things[:3], [TOP, TEN])
        self.check(things, 100, -10000, things[:3], [TOP, TEN])

    def test_a_forced_one_that_is_too_full_is_not_counted(self):
        things = [TEN, RUBBER, TEN, penalty(-10000), TEN]
        self.check_at(1, things, 19)
        things = [TEN, penalty(9999), TEN, penalty(-10000), TEN]
        self.check_at(1, things, 15)

    def test_the_first_too_full(self):
        for first in (penalty(-10000), penalty(77), penalty(-9999), glue(4), leaders(rule(), 0, five(4))):
            things = [TEN, first, TEN, penalty(-10000), TEN]
            self.check_at(1, things, 9)
            self.check_at(1, things, -5)
        self.check([TEN, TEN], 5, 0, [TEN, TEN], [])

    def test_nothing_is_looked_at_behind_what_is_too_full(self):
        # at 3 too full; at 5 it would be just so
        things = [TEN, RUBBER, TEN, penalty(0), kern(-10), penalty(-9999), TEN]
        self.check(things, 10, 0, [TEN], [TOP] + things[2:])
        things = [TEN, penalty(0), kern(-10), penalty(-10000), TEN]
        self.check(things, 0, 0, [TEN], [TOP, TEN])

    def test_shrunk(self):
        tight = glue(4, 0, 0, 4, 0)
        things = [TEN, tight, TEN, tight, TEN]
        self.check_at(5, things, 30)
        self.check_at(5, things, 26 + 6)
        self.check_at(3, things, 24)
        self.check_at(3, things, 23)
        self.check_at(3, things, 20)
        self.check_at(1, things, 19)

    def test_glue_at_the_break_does_not_count(self):
        things = [TEN, glue(0, 1, 3, 1, 3), TEN]
        self.check(things, 5, 0, [TEN], [TOP, TEN])

    def test_endless_stretch_fits_everywhere(self):
        things = [glue(0, 1, 2), TEN, glue(0), TEN, glue(0), TEN]
        self.check_at(4, things, 20)
        self.check_at(6, things, 500)

    def test_endless_shrink_is_never_too_full(self):
        things = [glue(0, 0, 0, 1, 1), TEN, glue(0), TEN, glue(0), TEN]
        self.check_at(6, things, 5)


class Depths(CutCase):

    LINE = box(height=8, depth=2)

    def test_depth_at_most(self):
        things = [self.LINE, glue(5), self.LINE, glue(5), self.LINE]
        # to the second break: 23 high and 2 deep
        for d, fits_from in ((-1, 23), (LEAST, 23), (0, 25), (1, 24), (2, 23), (3, 23), (GREATEST, 23)):
            self.check_at(3, things, fits_from, d)
            self.check_at(1, things, fits_from - 1, d)

    def test_height_below_0(self):
        things = [kern(-50), box(), glue(0), TEN, glue(0), TEN]
        self.check_at(2, things, -50)
        self.check_at(4, things, -40)
        self.check_at(4, things, -31)
        self.check_at(6, things, -30)

    def test_the_ends_of_lengths(self):
        things = [TEN, glue(0), TEN]
        self.check_at(1, things, LEAST, LEAST)
        self.check_at(3, things, GREATEST, GREATEST)
        self.check([kern(GREATEST)] * 90 + [glue(0), TEN], GREATEST, 0, [kern(GREATEST)] * 89, [TOP, TEN])


class Rests(CutCase):

    def test_what_is_dropped_at_its_beginning(self):
        dropped = [glue(1), leaders(rule(9, 9, 9), 0, five(1)), leaders(TEN, 0, five(1)), kern(2), penalty(5),
                   penalty(-10000), penalty(10000)]
        for first in (TEN, rule(4, 5, 6)):
            behind = [first, glue(1), kern(2), penalty(3), TEN]
            things = [TEN, penalty(-20000)] + dropped + behind
            self.check(things, 10, -20000, [TEN], [TOP] + behind)
        things = [TEN, penalty(-20000)] + dropped + [insertion(), glue(1), kern(2), penalty(3), mark(1)]
        self.check(things, 10, -20000, [TEN], things[-5:])

    def test_all_else_stays(self):
        for stays in (mark(1), anchor(2), glyph(3), disc([glyph()]), adjust(TEN, kern(1))):
            things = [TEN, penalty(-10000), glue(1), stays, kern(2), stays, penalty(1), TEN, glue(4), stays, TEN]
            self.check(things, 10, -10000, [TEN], [stays, stays, TOP, TEN, glue(4), stays, TEN])
            things = [TEN, penalty(-10000), stays, glue(1), TEN]
            self.check(things, 10, -10000, [TEN], [stays, TOP, TEN])

    def test_many_that_stay_in_order(self):
        stay = [mark(1), anchor(2), glyph(3), disc(), adjust(kern(1))]
        things = [TEN, penalty(-10000)] + sum([[kern(1), thing, glue(2)] for thing in stay], []) + [rule(1, 2, 3)]
        self.check(things, 10, -10000, [TEN], stay + [TOP, rule(1, 2, 3)])

    def test_the_thing_at_the_break_is_dropped(self):
        for at in (glue(0), leaders(rule(), 0, five(0)), penalty(3)):
            self.check([TEN, at, TEN], 10, at[1] if at[0] == 4 else 0, [TEN], [TOP, TEN])
        self.check([TEN, kern(0), glue(0), TEN], 10, 0, [TEN], [TOP, TEN])

    def test_an_insertion_first(self):
        first = insertion(TEN, number=3)
        things = [TEN, penalty(-10000), kern(1), first, kern(2), glue(3), mark(1), TEN, glue(4), TEN]
        self.check(things, 10, -10000, [TEN], [first, kern(2), glue(3), mark(1), glue(20), TEN, glue(4), TEN],
                   g=five(30))

    def test_an_insertion_and_no_box(self):
        first = insertion(TEN, number=3)
        things = [TEN, penalty(-10000), glue(1), mark(4), kern(1), first, kern(2), glue(3), mark(1)]
        self.check(things, 10, -10000, [TEN], [mark(4), first, kern(2), glue(3), mark(1)], g=five(30))

    def test_nothing_left(self):
        stay = [mark(1), anchor(2), glyph(3), disc([], [], [TEN]), adjust(TEN)]
        behind = sum([[kern(1), thing, glue(2), penalty(7), leaders(TEN, 0, five(0))] for thing in stay], [])
        self.check([TEN, penalty(-10000)] + behind, 10, -10000, [TEN] + stay, [], g=five(30))
        self.check([TEN, penalty(-10000), kern(1), glue(2)], 10, -10000, [TEN], [], g=five(30))
        self.check([TEN, penalty(-10000)], 10, -10000, [TEN], [], g=five(30))
        self.check([penalty(-10000), mark(1)], 10, -10000, [mark(1)], [], g=five(30))

    def test_a_rest_of_one_box(self):
        for behind in (box(), rule(), rule(0, 0, 0)):
            self.check([TEN, penalty(-10000), behind], 10, -10000, [TEN], [glue(30), behind], g=five(30))

    def test_what_is_above_stays_as_it_is(self):
        upper = [glue(1, 1, 1), kern(1), penalty(10000), mark(1), TEN, insertion(TEN), adjust(mark(2)), kern(5)]
        self.check(upper + [penalty(-10000), TEN], 50, -10000, upper, [TOP, TEN])


class GlueAtTheTop(CutCase):

    def check_top(self, first, g, expected):
        things = [TEN, penalty(-10000), first, TEN]
        self.check(things, 10, -10000, [TEN], [expected, first, TEN], g=g)

    def test_less_the_first_things_height(self):
        g = five(30, 1, 2, 3, 1)
        for first, size in ((TEN, 20), (box(height=29), 1), (box(height=30), 0), (box(height=31), 0),
                            (box(height=1000), 0), (box(height=0), 30), (box(height=-4), 34),
                            (box(height=4, depth=9, shift=5), 26), (rule(1, 7, 9), 23), (rule(1, None, 9), 30),
                            (rule(), 30), (rule(1, 31, -9), 0), (rule(1, -1, 9), 31)):
            self.check_top(first, g, glue(size, 1, 2, 3, 1))

    def test_its_stretch_and_shrink_stay(self):
        for g in (five(30, -1, 0, -3, 3), five(10, LEAST, 3, GREATEST, 0), five(0, 5, 1, 6, 2)):
            self.check_top(TEN, g, glue(max(0, g[0] - 10), *g[1:]))

    def test_below_0(self):
        self.check_top(TEN, five(-30), glue(0))
        self.check_top(box(height=-50), five(-30), glue(20))
        self.check_top(TEN, five(LEAST), glue(0))
        self.check_top(box(height=GREATEST), five(LEAST), glue(0))
        self.check_top(box(height=LEAST), five(LEAST), glue(0))
        self.check_top(box(height=LEAST), five(0), glue(GREATEST))

    def test_before_the_first_box_or_rule(self):
        things = [TEN, penalty(-10000), mark(1), rule(None, 3, 0), TEN]
        self.check(things, 10, -10000, [TEN], [mark(1), glue(17), rule(None, 3, 0), TEN], g=five(20))


class Lists(unittest.TestCase):

    THINGS = [TEN, penalty(-10000), mark(1), TEN, kern(3)]
    UPPER = [TEN]
    REST = [mark(1), glue(5), TEN, kern(3)]

    def check(self, k, j, m):
        calls = [put(list_number, mark(100 + list_number)) for list_number in range(4) if list_number != k]
        calls += [put(k, *self.THINGS), cut(k, j, m, 10, -1, five(15))] + [told(number) for number in range(4)]
        expected = [listed(mark(100 + number)) for number in range(4)]
        expected[k] = listed(*self.THINGS)
        expected[j] = listed(*self.UPPER)
        expected[m] = listed(*self.REST)
        self.assertEqual(run(*calls)[-5:], [[-10000]] + expected)

    def test_into_others_and_into_itself(self):
        for k, j, m in ((0, 1, 2), (0, 2, 1), (0, 0, 1), (0, 1, 0), (3, 3, 2), (3, 0, 3), (2, 0, 1)):
            self.check(k, j, m)

    def test_again_and_again(self):
        things = [TEN, RUBBER, TEN, RUBBER, TEN]
        answers = run(put(0, *things), cut(0, 1, 0, 10, 0, five(10)), told(1), told(0), cut(0, 2, 0, 10, 0, five(10)),
                      told(2), told(0), cut(0, 3, 0, 10, 0, five(10)), told(3), told(0))
        self.assertEqual(answers[1:], [
            [0], listed(TEN), listed(glue(0), TEN, RUBBER, TEN), [0], listed(glue(0), TEN), listed(glue(0), TEN),
            [0], listed(glue(0), TEN), [0],
        ])

    def test_the_empty_list_takes_the_place_of_what_was(self):
        self.assertEqual(run(put(1, TEN), put(2, TEN), cut(0, 1, 2, 0), told(1), told(2))[2:], [[0], [0], [0]])


class Refused(unittest.TestCase):

    def check_refused(self, number, things, k=0, j=1, m=2, v=10, d=0, g=(5, 0, 0, 0, 0)):
        calls = [put(0, *things), put(1, mark(5)), put(2, mark(6)), cut(k, j, m, v, d, g), told(0), told(1), told(2)]
        self.assertEqual(run(*calls)[3:], [[number], listed(*things), listed(mark(5)), listed(mark(6))])

    THINGS = [TEN, RUBBER, TEN]

    def test_wrong_lists(self):
        for wrong in (8, MANY):
            self.check_refused(-1, self.THINGS, k=wrong)
            self.check_refused(-1, self.THINGS, j=wrong)
            self.check_refused(-1, self.THINGS, m=wrong)
            self.check_refused(-1, self.THINGS, j=wrong, m=wrong)

    def test_one_list_for_both(self):
        for both in (0, 1, 7):
            self.check_refused(-1, self.THINGS, j=both, m=both)

    def test_wrong_lengths(self):
        for wrong in (LEAST - 1, GREATEST + 1, -2 ** 63, MANY):
            self.check_refused(-1, self.THINGS, v=wrong)
            self.check_refused(-1, self.THINGS, d=wrong)

    def test_no_glue(self):
        for g in ((), (5,), (5, 0, 0, 0), (5, 0, 0, 0, 0, 0), (5, 0, 4, 0, 0), (5, 0, -1, 0, 0), (5, 0, 0, 0, 4),
                  (5, 0, 0, 0, -1), (GREATEST + 1, 0, 0, 0, 0), (LEAST - 1, 0, 0, 0, 0), (5, GREATEST + 1, 0, 0, 0),
                  (5, LEAST - 1, 0, 0, 0), (5, 0, 0, GREATEST + 1, 0), (5, 0, 0, LEAST - 1, 0), (2, 5, 0, 0, 0, 0),
                  (MANY, 0, 0, 0, 0), (-2 ** 63, 0, 0, 0, 0), (0,) * 500):
            self.check_refused(-1, self.THINGS, g=g)
            # also where no glue would be laid
            self.check_refused(-1, [], g=g)

    def test_the_greatest_glue(self):
        for g in ((LEAST, LEAST, 3, LEAST, 3), (GREATEST, GREATEST, 3, GREATEST, 3)):
            self.assertEqual(last(put(0, *self.THINGS), cut(0, 1, 2, 10, 0, g)), [0])

    def test_glue_that_could_not_be_kept(self):
        things = [TEN, penalty(-10000), box(height=-1)]
        self.check_refused(-6, things, g=(GREATEST, 0, 0, 0, 0))
        self.assertEqual(last(put(0, *things), cut(0, 1, 2, 10, 0, five(GREATEST - 1)), told(2)),
                         listed(glue(GREATEST), box(height=-1)))
        things = [TEN, penalty(-10000), rule(1, LEAST, 1)]
        self.check_refused(-6, things, g=(1, 0, 0, 0, 0))
        self.assertEqual(last(put(0, *things), cut(0, 1, 2, 10, 0, five(0))), [-10000])

    def test_too_many_numbers(self):
        # a penalty of 2 numbers goes, glue of 6 comes
        things = [penalty(-10000), box()] + [anchor(1)] * 992
        self.assertEqual(len(listed(*things)), 1997)
        self.check_refused(-6, things)
        things = [penalty(-10000), box()] + [anchor(1)] * 990 + [rule(1)]
        self.assertEqual(len(listed(*things)), 1998)
        self.check_refused(-6, things)
        things = [penalty(-10000), box()] + [anchor(1)] * 990 + [rule()]
        self.assertEqual(len(listed(*things)), 1997)
        self.check_refused(-6, things)
        things = [penalty(-10000), box()] + [anchor(1)] * 989 + [rule(1)]
        self.assertEqual(len(listed(*things)), 1996)
        answers = run(put(0, *things), cut(0, 1, 0, 10), told(0))
        self.assertEqual(answers[1:], [[-10000], listed(glue(0), *things[1:])])
        self.assertEqual(len(answers[2]), 2000)

    def test_too_many_numbers_into_itself(self):
        things = [penalty(-10000), box()] + [anchor(1)] * 992
        for j, m in ((0, 1), (1, 0)):
            self.check_refused(-6, things, j=j, m=m)

    def test_wrong_numbers_come_first(self):
        things = [penalty(-10000), box(height=-1)] + [anchor(1)] * 992
        great = (GREATEST, 0, 0, 0, 0)
        self.check_refused(-6, things, g=great)
        for wrong in (dict(k=8), dict(j=8), dict(m=8), dict(j=2, m=2), dict(v=GREATEST + 1), dict(d=LEAST - 1)):
            self.check_refused(-1, things, g=great, **wrong)
        self.check_refused(-1, things, g=(1, 2, 3))

    def test_deep_things(self):
        things = [nested(8), penalty(-10000), nested(8, adjust), nested(8)]
        self.assertEqual(run(put(0, *things), cut(0, 1, 2, 0), told(1), told(2))[1:],
                         [[-10000], listed(things[0]), listed(things[2], TOP, things[3])])


class Long(unittest.TestCase):

    def test_many_breaks(self):
        things = [penalty(1)] * 999
        answers = run(put(0, *things), *[cut(0, 1, 2, 0)] * 13, told(1), told(2))
        self.assertEqual(answers[:3], [[999], [0], [0]])
        self.assertEqual(answers[-2:], [listed(*things), [0]])


if __name__ == "__main__":
    unittest.main()

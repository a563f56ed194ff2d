"""put and told: what a list and a thing are, number by number."""

import unittest

from helper import (
    GREATEST, LEAST, adjust, anchor, box, disc, five, glue, glyph, insertion, kern, last, leaders, listed, mark,
    nested, penalty, put, put_numbers, rule, run, told,
)

BELOW_2_60 = 2 ** 60 - 1


class Ordinary(unittest.TestCase):

    def check_told_back(self, *things):
        self.assertEqual(run(put(3, *things), told(3)), [[len(things)], listed(*things)])

    def test_every_kind(self):
        things = [
            glyph(7, 1, 2, 3), kern(-4), glue(1, 2, 3, 4, 1), leaders(rule(1, 2, 3), 1, five(9, 8, 2, 7, 1)),
            penalty(-10000), rule(5, None, 6), box(glyph(), kern(), direction=1, width=4, height=5, depth=6, order=2,
                                                   numerator=-7, denominator=8, shift=-9),
            disc([glyph(1)], [glyph(2), kern(1)], [glyph(3)]), adjust(kern(1), mark(2)), mark(200),
            insertion(box(), number=100, glue_numbers=five(1, 2, 3, 4, 0), depth=11, cost=-12), anchor(65535),
        ]
        self.assertEqual([thing[0] for thing in things], list(range(12)))
        for thing in things:
            with self.subTest(kind=thing[0]):
                self.check_told_back(thing)
        self.check_told_back(*things)

    def test_numbers_as_the_document_lays_them(self):
        numbers = [2, 6, 1, 10, 20, 30, 3, -5, 7, 4, 1, 0, 65, 1, 2, 3, 7, 0, 1, 1, 9, 0]
        self.assertEqual(run(put_numbers(0, numbers), told(0)), [[2], numbers])

    def test_leaders_of_each_way_and_of_boxes(self):
        for way in (0, 1, 2):
            self.check_told_back(leaders(rule(), way))
            self.check_told_back(leaders(box(glyph(), disc(), adjust(box(glue()))), way))

    def test_leaders_in_a_box_but_in_no_leaders(self):
        self.check_told_back(box(leaders(rule()), leaders(box())), leaders(box()))

    def test_each_side_of_a_rule_may_run(self):
        for width in (None, 1):
            for height in (None, -2):
                for depth in (None, 3):
                    self.check_told_back(rule(width, height, depth))

    def test_all_lists_are_empty_at_the_beginning(self):
        self.assertEqual(run(*[told(k) for k in range(8)]), [[0]] * 8)

    def test_the_empty_list(self):
        self.assertEqual(run(put(1, glyph()), put(1), told(1)), [[1], [0], [0]])

    def test_eight_lists_beside_one_another(self):
        calls = [put(k, *[kern(k)] * k) for k in range(8)] + [told(k) for k in range(8)]
        expected = [[k] for k in range(8)] + [listed(*[kern(k)] * k) for k in range(8)]
        self.assertEqual(run(*calls), expected)

    def test_put_takes_the_place_of_what_was(self):
        self.assertEqual(run(put(0, glyph(), glyph()), put(0, kern(1)), told(0))[1:], [[1], [1, 1, 1]])


class Ranges(unittest.TestCase):

    def check(self, make, least, greatest):
        """make(n) is a thing with n at one place."""
        for number in (least, greatest):
            self.assertEqual(run(put(0, make(number)), told(0)), [[1], listed(make(number))], number)
        for number in (least - 1, greatest + 1, -2 ** 63, 2 ** 63 - 1):
            self.assertEqual(run(put(0, make(number)), told(0)), [[-3], [0]], number)

    def check_each(self, thing, ranges):
        for place, bounds in enumerate(ranges):
            with self.subTest(kind=thing[0], place=place):
                def changed(number):
                    return thing[:1 + place] + [number] + thing[2 + place:]
                self.check(changed, bounds[0], bounds[1])

    def test_numbers_of_each_kind(self):
        length = (LEAST, GREATEST)
        order = (0, 3)
        five_ranges = [length, length, order, length, order]
        self.check_each(glyph(), [(0, 65535), length, length, length])
        self.check_each(kern(), [length])
        self.check_each(glue(), five_ranges)
        self.check_each(leaders(rule()), five_ranges + [(0, 2)])
        self.check_each(penalty(), [length])
        numerator = (-BELOW_2_60, BELOW_2_60)
        denominator = (1, BELOW_2_60)
        self.check_each(box(), [(0, 1), length, length, length, order, numerator, denominator, length])
        self.check_each(mark(), [(0, 255)])
        self.check_each(insertion(), [(0, 255)] + five_ranges + [length, length])
        self.check_each(anchor(), [(0, 65535)])

    def test_sides_of_rules(self):
        self.check(lambda side: rule(width=side), LEAST, GREATEST)
        self.check(lambda side: rule(height=side), LEAST, GREATEST)
        self.check(lambda side: rule(depth=side), LEAST, GREATEST)
        self.check(lambda side: leaders(rule(depth=side)), LEAST, GREATEST)

    def test_within_things(self):
        self.check(lambda number: box(kern(number)), LEAST, GREATEST)
        self.check(lambda number: disc([mark(number)]), 0, 255)
        self.check(lambda number: disc([], [mark(number)]), 0, 255)
        self.check(lambda number: disc([], [], [mark(number)]), 0, 255)
        self.check(lambda number: adjust(anchor(number)), 0, 65535)
        self.check(lambda number: insertion(penalty(number)), LEAST, GREATEST)
        self.check(lambda number: leaders(box(kern(number))), LEAST, GREATEST)


class Deep(unittest.TestCase):

    def chains(self, deep):
        """Things that are so deep, by each kind in which things stand."""
        inner = nested(deep - 1)
        yield nested(deep)
        yield nested(deep, box, [glyph()])
        yield nested(deep, adjust)
        yield nested(deep, adjust, [kern()])
        yield nested(deep, insertion)
        yield nested(deep, lambda *things: disc(things))
        yield nested(deep, lambda *things: disc([], things))
        yield nested(deep, lambda *things: disc([], [], things))
        yield leaders(inner)
        yield insertion(kern(), inner, kern())
        yield adjust(nested(deep - 2, adjust), inner)

    def test_eight_deep_is_kept(self):
        for thing in self.chains(8):
            self.assertEqual(run(put(0, thing), told(0)), [[1], listed(thing)])

    def test_nine_deep_is_not(self):
        for thing in self.chains(9):
            self.assertEqual(run(put(0, thing), told(0)), [[-3], [0]])

    def test_leaders_of_a_rule_are_one_deep(self):
        self.assertEqual(last(put(0, nested(8, box, [glyph()]), nested(7, box, [leaders(rule())]))), [2])
        self.assertEqual(last(put(0, nested(8, box, [leaders(rule())]))), [-3])

    def test_leaders_of_a_box_are_two_deep(self):
        self.assertEqual(last(put(0, nested(6, box, [leaders(box())]))), [1])
        self.assertEqual(last(put(0, nested(7, box, [leaders(box())]))), [-3])

    def test_very_deep_is_refused(self):
        self.assertEqual(last(put(0, nested(280))), [-3])
        self.assertEqual(last(put(0, nested(1400, adjust))), [-3])
        self.assertEqual(last(put_numbers(0, [1] + [8, 1] * 1449)), [-3])
        self.assertEqual(last(put_numbers(0, [1] + [3, 0, 0, 0, 0, 0, 0] * 400)), [-3])


class HowMany(unittest.TestCase):

    def test_two_thousand_numbers_are_kept(self):
        things = [glyph()] + [kern(1)] * 997
        self.assertEqual(len(listed(*things)), 2000)
        self.assertEqual(run(put(0, *things), told(0)), [[998], listed(*things)])

    def test_two_thousand_and_one_are_not(self):
        things = [kern(1)] * 1000
        self.assertEqual(len(listed(*things)), 2001)
        self.assertEqual(run(put(0, mark(1)), put(0, *things), told(0)), [[1], [-6], listed(mark(1))])

    def test_numbers_within_things_count(self):
        self.assertEqual(last(put(0, box(glyph(), *[kern(1)] * 992))), [1])
        self.assertEqual(last(put(0, box(*[kern(1)] * 995))), [-6])

    def test_as_many_as_can_be_handed_in(self):
        self.assertEqual(last(put(0, *[kern(1)] * 1449)), [-6])
        self.assertEqual(last(put_numbers(0, [0] * 2900)), [-3])


class Wrong(unittest.TestCase):

    def check_wrong(self, *lists):
        for numbers in lists:
            with self.subTest(numbers=numbers[:20]):
                calls = [put(0, anchor(5)), put_numbers(0, numbers), told(0)]
                self.assertEqual(run(*calls), [[1], [-3], listed(anchor(5))])

    def test_how_many_things(self):
        self.check_wrong([], [-1], [1], [2, 1, 0], [0, 1, 0], [1, 1, 0, 0], [2 ** 63 - 1], [-2 ** 63], [2 ** 63 - 1, 1, 0])

    def test_no_such_kind(self):
        self.check_wrong([1, 12], [1, -1], [1, 2 ** 63 - 1], [1, 12, 0], [1, -1, 0], [1, -11, 0], listed(box([12, 0])))

    def test_a_thing_that_breaks_off(self):
        whole = [
            glyph(), kern(), glue(), leaders(rule(1, 2, 3)), leaders(box(kern())), penalty(), rule(1, 2, 3),
            box(glyph()), disc([kern()], [kern()], [kern()]), adjust(kern()), mark(), insertion(kern()), anchor(),
        ]
        for thing in whole:
            self.check_wrong(*[[1] + thing[:count] for count in range(len(thing))])
            self.check_wrong([1] + thing + [0])

    def test_how_many_things_within(self):
        self.check_wrong([1, 8, -1], [1, 8, 1], [1, 8, 0, 0], [1, 7, 0, 0], [1, 7, 0, -1, 0])

    def test_a_side_that_neither_runs_nor_is_told(self):
        self.check_wrong([1, 5, 2, 0, 0, 0], [1, 5, 0, -1, 0], [1, 5, 0, 0, 2], [1, 5, 0, 0, 2, 7])

    def test_leaders_of_neither_rule_nor_box(self):
        others = [
            glyph(), kern(), glue(), leaders(rule()), penalty(), disc(), adjust(), mark(), insertion(), anchor(),
        ]
        for thing in others:
            self.check_wrong(listed(leaders(thing)))

    def test_leaders_in_leaders(self):
        inner = leaders(rule())
        self.check_wrong(
            listed(leaders(box(inner))), listed(leaders(box(box(inner)))), listed(leaders(box(kern(), adjust(inner)))),
            listed(leaders(box(insertion(inner)))), listed(leaders(box(disc([inner])))),
            listed(leaders(box(disc([], [inner])))), listed(leaders(box(disc([], [], [inner])))),
            listed(leaders(box(box(kern(), box(adjust(disc([], [box(inner)])))), kern()))),
        )

    def test_order_of_refusals(self):
        too_many = listed(*[kern(1)] * 1000)
        for k in (8, 9, 2 ** 63 - 1):
            self.assertEqual(last(put_numbers(k, [0])), [-1])
            self.assertEqual(last(put_numbers(k, [-1])), [-1])
            self.assertEqual(last(put_numbers(k, too_many)), [-1])
            self.assertEqual(last(told(k)), [-1])
        self.assertEqual(last(put_numbers(7, too_many + [0])), [-3])
        self.assertEqual(last(put_numbers(7, listed(nested(9), *[kern(1)] * 1000))), [-3])
        self.assertEqual(last(put_numbers(7, too_many)), [-6])

    def test_what_is_refused_changes_nothing(self):
        before = [put(k, kern(k)) for k in range(4)]
        wrong = [put_numbers(8, [0]), put_numbers(1, [1]), put_numbers(2, listed(*[kern(1)] * 1000))]
        after = [told(k) for k in range(4)]
        expected = [[1]] * 4 + [[-1], [-3], [-6]] + [listed(kern(k)) for k in range(4)]
        self.assertEqual(run(*before, *wrong, *after), expected)


if __name__ == "__main__":
    unittest.main()

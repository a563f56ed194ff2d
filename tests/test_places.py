"""places: where everything in a box stands, and which leaves are told. Leaders are in test_leaders.py."""

import unittest
from fractions import Fraction

from helper import (
    GREATEST, LEAST, adjust, anchor, at_anchor, at_glyph, at_rule, box, disc, five, glue, glyph, insertion, kern, last,
    leaders, leaves_of, listed, mark, nested, pack, penalty, places, put, rule, run, told,
)

MANY = 2 ** 63 - 1


class PlacesCase(unittest.TestCase):

    def check(self, thing, expected, x=0, y=0):
        self.assertEqual(run(put(0, thing), places(0, 0, x, y), told(0)), [[1], sum(expected, []), listed(thing)])


class Rows(PlacesCase):

    def test_behind_the_widths_of_all_before(self):
        thing = box(glyph(1, 10, 7, 2), kern(3), glyph(2, 5, 90, 90), kern(-40), anchor(9), glyph(3), width=77,
                    height=88, depth=99)
        expected = [at_glyph(1, 100, 50), at_glyph(2, 113, 50), at_anchor(9, 78, 50), at_glyph(3, 78, 50)]
        self.check(thing, expected, 100, 50)

    def test_what_each_kind_takes(self):
        for before, width in (
            (glyph(1, 6, 0, 0), 6), (kern(6), 6), (glue(6, 90, 0, 90, 0), 6), (leaders(rule(), 0, five(6)), 6),
            (penalty(6), 0), (rule(6, 0, 0), 6), (rule(), 0), (box(width=6, shift=90), 6), (box(kern(6)), 0),
            (disc([kern(90)], [kern(80)], [kern(2), glyph(1, 4)]), 6), (adjust(kern(6)), 0), (mark(6), 0),
            (insertion(kern(6), glue_numbers=five(6, 6, 0, 6, 0), depth=6), 0), (anchor(6), 0),
        ):
            with self.subTest(kind=before[0]):
                self.assertEqual(leaves_of(box(before, anchor(7)))[-4:], at_anchor(7, width, 0))

    def test_stretched_added_up_and_rounded_once(self):
        unit = [anchor(0), glue(5, 1, 0, 90, 0)]
        thing = box(*unit * 7, anchor(0), order=0, numerator=3, denominator=6)
        expected = [at_anchor(0, x, 0) for x in (0, 5, 11, 16, 22, 27, 33, 38)]
        self.check(thing, expected)

    def test_shrunk_added_up_and_rounded_down(self):
        unit = [anchor(0), glue(5, 90, 0, 1, 0)]
        thing = box(*unit * 7, anchor(0), order=0, numerator=-3, denominator=6)
        expected = [at_anchor(0, x, 0) for x in (0, 4, 9, 13, 18, 22, 27, 31)]
        self.check(thing, expected)

    def test_rounded_down_below_0(self):
        self.assertEqual(leaves_of(box(glue(0, 0, 0, 1, 0), anchor(0), numerator=-1, denominator=1000)),
                         at_anchor(0, -1, 0))
        self.assertEqual(leaves_of(box(glue(0, -1, 0), anchor(0), numerator=1, denominator=1000)), at_anchor(0, -1, 0))
        self.assertEqual(leaves_of(box(glue(0, 0, 0, -1, 0), anchor(0), numerator=-1, denominator=1000)),
                         at_anchor(0, 0, 0))
        self.assertEqual(leaves_of(box(glue(-7, 0, 0, 7, 0), anchor(0), numerator=-1, denominator=2), -100, -50),
                         at_anchor(0, -111, -50))

    def test_by_the_settings_order_alone(self):
        glues = [glue(1, 10, order, 100, order) for order in (0, 1, 2, 3)]
        for order in (0, 1, 2, 3):
            for numerator, xs in ((2, [1, 2, 3, 4]), (-2, [1, 2, 3, 4])):
                give = 20 if numerator > 0 else -200
                xs = [x + (give if at >= order else 0) for at, x in enumerate(xs)]
                things = sum([[part, anchor(0)] for part in glues], [])
                thing = box(*things, order=order, numerator=numerator)
                self.check(thing, [at_anchor(0, x, 0) for x in xs])

    def test_stretch_and_shrink_have_orders_of_their_own(self):
        part = glue(0, 10, 2, 100, 1)
        for order, numerator, x in ((2, 1, 10), (1, 1, 0), (2, -1, 0), (1, -1, -100)):
            self.assertEqual(leaves_of(box(part, anchor(0), order=order, numerator=numerator)), at_anchor(0, x, 0))

    def test_a_setting_of_0_gives_nothing(self):
        self.assertEqual(leaves_of(box(glue(5, 9, 0, 9, 0), anchor(0), denominator=7)), at_anchor(0, 5, 0))

    def test_leaders_give_way_like_glue(self):
        for repeated in (rule(0, 0, 0), box()):
            part = leaders(repeated, 0, five(5, 7, 1, 8, 1))
            self.assertEqual(leaves_of(box(part, anchor(0), order=1, numerator=1, denominator=2)), at_anchor(0, 8, 0))
            self.assertEqual(leaves_of(box(part, anchor(0), order=1, numerator=-1, denominator=2)), at_anchor(0, 1, 0))

    def test_glue_within_a_disc_does_not_give(self):
        part = disc([], [], [glue(5, 9, 0, 9, 0)])
        self.assertEqual(leaves_of(box(part, anchor(0), numerator=1)), at_anchor(0, 5, 0))

    def test_great_settings(self):
        thing = box(glue(0, GREATEST, 0), anchor(0), numerator=2 ** 60 - 1)
        self.check(thing, [at_anchor(0, GREATEST * (2 ** 60 - 1), 0)])
        thing = box(glue(0, 0, 0, GREATEST, 0), anchor(0), numerator=1 - 2 ** 60)
        self.check(thing, [at_anchor(0, GREATEST * (1 - 2 ** 60), 0)])
        thing = box(glue(0, 1, 0), anchor(0), numerator=2 ** 60 - 2, denominator=2 ** 60 - 1)
        self.check(thing, [at_anchor(0, 0, 0)])

    def test_boxes_shifted_down(self):
        for s in (4, -4, 0):
            thing = box(kern(3), box(glyph(1), kern(2), anchor(5), width=6, height=7, depth=8, shift=s), glyph(2))
            expected = [at_glyph(1, 13, 20 + s), at_anchor(5, 25, 20 + s), at_glyph(2, 19, 20)]
            self.check(thing, expected, 10, 20)

    def test_its_own_shift_is_of_no_matter(self):
        for direction in (0, 1):
            for s in (0, 9, -9):
                thing = box(glyph(1), direction=direction, height=4, shift=s)
                self.check(thing, [at_glyph(1, 10, 16 if direction else 20)], 10, 20)


class Columns(PlacesCase):

    def test_from_its_top_downwards(self):
        line = box(glyph(1), width=9, height=8, depth=2)
        thing = box(line, kern(3), line, glue(-1, 90, 0, 90, 0), line, direction=1, width=9, height=33, depth=2)
        # the top is at 50 - 33 = 17
        self.check(thing, [at_glyph(1, 100, y) for y in (25, 38, 47)], 100, 50)

    def test_what_each_kind_takes(self):
        for before, length in (
            (glyph(1, 6, 6, 6), 0), (kern(6), 6), (glue(6, 90, 0, 90, 0), 6),
            (leaders(rule(0, 90, 90), 0, five(6)), 6), (leaders(box(height=90), 0, five(6)), 6), (penalty(6), 0),
            (rule(0, 4, 2), 6), (rule(0, 6, None), 6), (rule(0, None, 6), 6), (rule(), 0),
            (box(height=4, depth=2, shift=90), 6), (box(height=8, depth=-2), 6), (box(kern(6), direction=1), 0),
            (disc([kern(90)], [kern(80)], [kern(6)]), 0), (adjust(kern(6)), 0), (mark(6), 0),
            (insertion(kern(6), glue_numbers=five(6, 6, 0, 6, 0), depth=6), 0), (anchor(6), 0),
        ):
            with self.subTest(kind=before[0]):
                self.assertEqual(leaves_of(box(before, anchor(7), direction=1))[-4:], at_anchor(7, 0, length))

    def test_glyphs_and_anchors_at_their_tops(self):
        thing = box(glyph(1, 5, 6, 7), kern(4), anchor(2), glyph(3, 5, 6, 7), direction=1, height=10)
        self.check(thing, [at_glyph(1, 7, 90), at_anchor(2, 7, 94), at_glyph(3, 7, 94)], 7, 100)

    def test_stretched_and_shrunk(self):
        unit = [anchor(0), glue(5, 1, 2, 1, 2)]
        for numerator, ys in ((1, (0, 5, 11, 16)), (-1, (0, 4, 9, 13))):
            thing = box(*unit * 3, anchor(0), direction=1, order=2, numerator=numerator, denominator=2, height=10)
            self.check(thing, [at_anchor(0, 3, 20 + y) for y in ys], 3, 30)

    def test_boxes_shifted_right(self):
        for s in (4, -4):
            thing = box(box(glyph(1), height=6, depth=1, shift=s), anchor(2), direction=1, height=6, depth=1)
            self.check(thing, [at_glyph(1, 10 + s, 20), at_anchor(2, 10, 21)], 10, 20)

    def test_by_their_top(self):
        line = box(glyph(1), height=8, depth=2)
        answers = run(put(0, line, kern(5), line), pack(0, 1, 2), pack(0, 2, 1), places(1, 0, 0, 100),
                      places(2, 0, 0, 100))
        self.assertEqual(answers[3:], [at_glyph(1, 0, 100) + at_glyph(1, 0, 115),
                                       at_glyph(1, 0, 85) + at_glyph(1, 0, 100)])

    def test_heights_below_0(self):
        thing = box(box(glyph(1), height=-6, depth=9), anchor(2), direction=1, height=-10)
        self.check(thing, [at_glyph(1, 0, 4), at_anchor(2, 0, 13)])


class InOneAnother(PlacesCase):

    def test_rows_and_columns_in_one_another(self):
        word = box(glyph(1, 4, 3, 1), glue(2, 1, 1), glyph(2, 4, 3, 1), width=20, height=3, depth=1, order=1,
                   numerator=10, denominator=1, shift=1)
        column = box(word, kern(2), word, anchor(9), direction=1, width=21, height=9, depth=1, shift=-5)
        thing = box(kern(7), column, glyph(3, 1, 1, 1), column, width=50, height=14, depth=4)
        # the columns' lines are at 100 - 5, their tops 9 above that, at 86; the words' lines at 86 + 3 and 92 + 3
        expected = []
        for x, behind in ((7, [at_glyph(3, 28, 100)]), (29, [])):
            for y in (89, 95):
                expected += [at_glyph(1, x + 1, y), at_glyph(2, x + 1 + 16, y)]
            expected += [at_anchor(9, x, 96)] + behind
        self.check(thing, expected, 0, 100)

    def test_depth_first(self):
        thing = box(anchor(1), box(anchor(2), box(anchor(3), direction=1), anchor(4)), anchor(5), box(anchor(6)))
        self.check(thing, [at_anchor(name, 0, 0) for name in (1, 2, 3, 4, 5, 6)])

    def test_eight_deep(self):
        self.check(nested(8, box, [glyph(1)]), [at_glyph(1, 3, 4)], 3, 4)
        shifted = anchor(1)
        for step in range(8):
            shifted = box(shifted, direction=step % 2, shift=1)
        # of the seven boxes within, three stand in rows and four in columns
        self.check(shifted, [at_anchor(1, 4, 3)])

    def test_each_box_sets_its_own_glue(self):
        part = glue(10, 4, 0, 4, 0)
        inner = box(part, anchor(1), numerator=-1, denominator=2, width=30)
        self.check(box(part, inner, part, anchor(2), numerator=1, denominator=4),
                   [at_anchor(1, 11 + 8, 0), at_anchor(2, 52, 0)])

    def test_what_has_no_leaf(self):
        things = [
            kern(5), glue(5), penalty(5), disc([glyph()], [glyph()], [glyph(), anchor()]), adjust(glyph(), rule(1, 1, 1)),
            mark(5), insertion(glyph(), box(anchor())), box(), leaders(box(width=1, height=1), 0, five(9)),
        ]
        for direction in (0, 1):
            self.check(box(*things, direction=direction), [])

    def test_none_at_all(self):
        self.check(box(), [])
        self.check(box(box(box(direction=1)), direction=1), [])

    def test_the_box_asked_for(self):
        things = [box(glyph(1)), kern(4), box(kern(3), glyph(2)), box(glyph(3), direction=1, height=2)]
        answers = run(put(6, *things), places(6, 0, 5, 5), places(6, 2, 5, 5), places(6, 3, 5, 5))
        self.assertEqual(answers[1:], [at_glyph(1, 5, 5), at_glyph(2, 8, 5), at_glyph(3, 5, 3)])

    def test_at_the_ends_of_lengths(self):
        self.check(box(kern(GREATEST), glyph(65535)), [at_glyph(65535, 2 * GREATEST, LEAST)], GREATEST, LEAST)
        self.check(box(kern(LEAST), anchor(0)), [at_anchor(0, 2 * LEAST, GREATEST)], LEAST, GREATEST)


class Rules(PlacesCase):

    def test_in_a_row(self):
        self.check(box(kern(3), rule(4, 5, 6), glyph(1), width=90, height=91, depth=92),
                   [at_rule(13, 20, 4, 5, 6), at_glyph(1, 17, 20)], 10, 20)

    def test_running_sides_in_a_row(self):
        around = dict(width=90, height=7, depth=8)
        self.check(box(rule(4, None, 6), **around), [at_rule(0, 0, 4, 7, 6)])
        self.check(box(rule(4, 5, None), **around), [at_rule(0, 0, 4, 5, 8)])
        self.check(box(rule(4, None, None), **around), [at_rule(0, 0, 4, 7, 8)])
        self.check(box(rule(None, 5, 6), **around), [])
        self.check(box(rule(), **around), [])

    def test_in_a_column(self):
        self.check(box(kern(3), rule(4, 5, 6), anchor(1), direction=1, width=90, height=10, depth=92),
                   [at_rule(10, 18, 4, 5, 6), at_anchor(1, 10, 24)], 10, 20)

    def test_running_sides_in_a_column(self):
        around = dict(direction=1, width=90, height=7, depth=8)
        self.check(box(rule(None, 5, 6), **around), [at_rule(0, -2, 90, 5, 6)])
        self.check(box(rule(None, None, 6), **around), [at_rule(0, -7, 90, 0, 6)])
        self.check(box(rule(4, None, 6), **around), [at_rule(0, -7, 4, 0, 6)])
        self.check(box(rule(4, 5, None), **around), [at_rule(0, -2, 4, 5, 0)])
        self.check(box(rule(4, None, None), **around), [])
        self.check(box(rule(), **around), [])

    def test_running_sides_are_those_of_the_box_straight_around(self):
        inner = box(rule(2), width=3, height=4, depth=5, shift=1)
        self.check(box(inner, width=60, height=70, depth=80), [at_rule(0, 1, 2, 4, 5)])
        column = box(rule(None, 1, 1), direction=1, width=3, height=1)
        self.check(box(column, direction=1, width=60, height=1), [at_rule(0, 0, 3, 1, 1)])

    def test_area(self):
        for direction in (0, 1):
            def around(part):
                return box(part, direction=direction)
            self.assertNotEqual(leaves_of(around(rule(1, 1, 0))), [])
            self.assertNotEqual(leaves_of(around(rule(1, 0, 1))), [])
            self.assertNotEqual(leaves_of(around(rule(1, -4, 5))), [])
            self.assertNotEqual(leaves_of(around(rule(1, 5, -4))), [])
            for part in (rule(0, 1, 1), rule(-1, 1, 1), rule(1, 0, 0), rule(1, 4, -4), rule(1, -4, 4), rule(1, -4, 3),
                         rule(-1, -1, -1)):
                self.assertEqual(leaves_of(around(part)), [])

    def test_running_sides_without_area(self):
        self.check(box(rule(4), width=5, height=3, depth=-3), [])
        self.check(box(rule(4), width=5, height=-3, depth=4), [at_rule(0, 0, 4, -3, 4)])
        self.check(box(rule(None, 1, 1), direction=1, width=0), [])
        self.check(box(rule(None, 1, 1), direction=1, width=-2), [])

    def test_a_line_above_its_top(self):
        self.check(box(rule(4, -5, 8), anchor(1), direction=1), [at_rule(0, -5, 4, -5, 8), at_anchor(1, 0, 3)])


class Promises(PlacesCase):

    THINGS = [
        kern(10), glue(3, 7, 0, 4, 0), glyph(1, 20, 1, 1), glue(-2, 6, 0, 9, 0), rule(3, 2, 1), glue(1, 11, 0, 3, 0),
        box(glyph(2), width=4, height=4, depth=1, shift=2), leaders(rule(0, 0, 0), 0, five(2, 5, 0, 2, 0)), anchor(9),
    ]

    def test_the_end_is_where_it_should_be(self):
        for wanted in range(23, 120):
            answers = run(put(0, *self.THINGS), pack(0, 1, 0, 1, wanted), places(1, 0, 7, 8))
            self.assertNotEqual(answers[1][0], 3)
            self.assertEqual(answers[2][-4:], at_anchor(9, 7 + wanted, 8))

    def test_the_end_of_a_column_is_where_it_should_be(self):
        for wanted in range(7, 120):
            answers = run(put(0, *self.THINGS), pack(0, 1, 1, 1, wanted, 0), places(1, 0, 7, 8))
            self.assertNotEqual(answers[1][0], 3)
            self.assertEqual(answers[2][-4:], at_anchor(9, 7, 8))

    def test_less_than_1_from_the_exact_fraction(self):
        glues = [(3, 7, 4), (-2, 6, 9), (1, 11, 3), (0, -5, -2), (4, 8, 9)]
        things = sum([[glue(part[0], part[1], 0, part[2], 0), anchor(0)] for part in glues], [])
        for wanted in range(-17, 90):
            answers = run(put(0, *things), pack(0, 1, 0, 1, wanted), places(1, 0))
            xs = answers[2][2::4]
            more = wanted - 6
            exact = Fraction(0)
            for part, x in zip(glues, xs):
                exact += part[0] + Fraction(more * part[1], 27) if more > 0 else part[0] + Fraction(more * part[2], 23)
                self.assertLessEqual(x, exact)
                self.assertLess(exact - x, 1)
            self.assertEqual(xs[-1], wanted)

    def test_a_box_moved_moves_its_leaves_alike(self):
        repeated = box(glyph(5), rule(1, 1, 1), width=3, height=2, depth=1, shift=1)
        spaces = [leaders(repeated, way, five(13, 5, 0, 3, 0)) for way in (0, 1, 2)]
        for direction in (0, 1):
            thing = box(kern(-5), *self.THINGS, *spaces, rule(), direction=direction, width=30, height=9, depth=3,
                        numerator=-2, denominator=3)
            here = leaves_of(thing)
            for dx, dy in ((1, 0), (0, 1), (-7, 11), (1000, -1000)):
                self.assertEqual(leaves_of(thing, dx, dy), moved(here, dx, dy))


def moved(numbers, dx, dy):
    found = []
    rest = list(numbers)
    while rest:
        if rest[0] == 1:
            found += [1, rest[1] + dx, rest[2] + dy] + rest[3:6]
            rest = rest[6:]
        else:
            found += rest[:2] + [rest[2] + dx, rest[3] + dy]
            rest = rest[4:]
    return found


class Refused(unittest.TestCase):

    def check_refused(self, number, things, k=0, i=0, x=0, y=0):
        self.assertEqual(run(put(0, *things), places(k, i, x, y), told(0))[1:], [[number], listed(*things)])

    def test_no_box(self):
        for thing in (glyph(), kern(), glue(), leaders(box(glyph())), penalty(), rule(1, 1, 1), disc([box()]),
                      adjust(box()), mark(), insertion(box()), anchor()):
            self.check_refused(-4, [thing, box(glyph())])

    def test_not_there(self):
        for i in (2, 3, MANY):
            self.check_refused(-4, [box(glyph()), box(glyph())], i=i)
        self.assertEqual(last(places(0, 0)), [-4])

    def test_wrong_numbers_come_first(self):
        for i in (0, 1, 9):
            for k in (8, MANY):
                self.check_refused(-1, [box(glyph()), kern()], k=k, i=i)
            for wrong in (LEAST - 1, GREATEST + 1, -2 ** 63, MANY):
                self.check_refused(-1, [box(glyph()), kern()], i=i, x=wrong)
                self.check_refused(-1, [box(glyph()), kern()], i=i, y=wrong)


if __name__ == "__main__":
    unittest.main()

"""unpack and join."""

import unittest

from helper import (
    adjust, anchor, box, disc, five, glue, glyph, insertion, join, kern, last, leaders, listed, mark, nested, pack,
    penalty, put, rule, run, told, unpack,
)

MANY = 2 ** 63 - 1


class Unpack(unittest.TestCase):

    def test_what_is_in_the_thing_asked_for(self):
        things = [kern(1), box(glyph(), kern(2), shift=4), box(direction=1), box(nested(7))]
        self.assertEqual(run(put(0, *things), unpack(0, 1, 1), told(1), unpack(0, 2, 2), told(2), unpack(0, 3, 3),
                             told(3), told(0)),
                         [[4], [2], listed(glyph(), kern(2)), [0], [0], [1], listed(nested(7)), listed(*things)])

    def test_takes_the_place_of_what_was(self):
        self.assertEqual(run(put(0, box()), put(1, kern(1)), unpack(0, 0, 1), told(1)), [[1], [1], [0], [0]])

    def test_into_itself(self):
        things = [kern(1), box(mark(1), mark(2))]
        self.assertEqual(run(put(5, *things), unpack(5, 1, 5), told(5)), [[2], [2], listed(mark(1), mark(2))])

    def test_step_by_step_into_the_deepest(self):
        calls = [put(0, nested(8, box, [anchor(9)]))] + [unpack(0, 0, 0)] * 8 + [told(0), unpack(0, 0, 0)]
        self.assertEqual(run(*calls), [[1]] * 9 + [listed(anchor(9)), [-4]])

    def test_no_box(self):
        things = [
            glyph(), kern(), glue(), leaders(box(kern()), 0, five()), penalty(), rule(), disc([box()], [box()], [box()]),
            adjust(box()), mark(), insertion(box()), anchor(),
        ]
        for thing in things:
            with self.subTest(kind=thing[0]):
                calls = [put(0, thing, box()), put(1, mark(7)), unpack(0, 0, 1), told(0), told(1)]
                self.assertEqual(run(*calls)[2:], [[-4], listed(thing, box()), listed(mark(7))])

    def test_not_there(self):
        for i in (2, 3, MANY):
            calls = [put(0, box(), box(kern())), put(1, mark(7)), unpack(0, i, 1), told(1)]
            self.assertEqual(run(*calls)[2:], [[-4], listed(mark(7))])
        self.assertEqual(last(unpack(0, 0, 1)), [-4])

    def test_wrong_lists_come_first(self):
        for k, i, j in ((8, 0, 1), (0, 0, 8), (MANY, 0, 0), (0, 0, MANY), (8, MANY, 8), (0, 5, 8)):
            calls = [put(0, box(kern())), put(1, mark(7)), unpack(k, i, j), told(0), told(1)]
            self.assertEqual(run(*calls)[2:], [[-1], listed(box(kern())), listed(mark(7))])


class Join(unittest.TestCase):

    def test_behind_its_own(self):
        self.assertEqual(run(put(0, kern(1), kern(2)), put(1, mark(1)), join(0, 1), told(0), told(1)),
                         [[2], [1], [3], listed(kern(1), kern(2), mark(1)), listed(mark(1))])

    def test_with_itself(self):
        self.assertEqual(run(put(0, kern(1), mark(2)), join(0, 0), told(0), join(0, 0)),
                         [[2], [4], listed(kern(1), mark(2), kern(1), mark(2)), [8]])

    def test_empty_lists(self):
        self.assertEqual(run(join(0, 1), join(0, 0), told(0)), [[0], [0], [0]])
        self.assertEqual(run(put(0, kern(1)), join(0, 1), join(1, 0), told(1)), [[1], [1], [1], listed(kern(1))])

    def test_lists_stay_apart(self):
        calls = [put(0, kern(1)), join(1, 0), join(1, 1), join(0, 1), told(0), told(1)]
        self.assertEqual(run(*calls)[4:], [listed(*[kern(1)] * 3), listed(*[kern(1)] * 2)])

    def test_deep_things(self):
        self.assertEqual(run(put(0, nested(8)), join(0, 0), told(0))[1:], [[2], listed(nested(8), nested(8))])

    def test_two_thousand_numbers_and_one_more(self):
        first = [glyph()] + [kern(1)] * 498
        second = [kern(2)] * 499
        self.assertEqual(len(listed(*first, *second)), 2000)
        answers = run(put(0, *first), put(1, *second), join(0, 1), told(0))
        self.assertEqual(answers[2:], [[998], listed(*first, *second)])
        second = [glyph()] + [kern(2)] * 497
        self.assertEqual(len(listed(*first, *second)), 2001)
        answers = run(put(0, *first), put(1, *second), join(0, 1), told(0), told(1))
        self.assertEqual(answers[2:], [[-6], listed(*first), listed(*second)])

    def test_too_many_with_itself(self):
        self.assertEqual(run(put(0, *[kern(1)] * 499), join(0, 0), join(0, 0), told(0)),
                         [[499], [998], [-6], listed(*[kern(1)] * 998)])
        self.assertEqual(run(put(0, *[kern(1)] * 500), join(0, 0), told(0)), [[500], [-6], listed(*[kern(1)] * 500)])

    def test_wrong_lists_come_first(self):
        many = [kern(1)] * 600
        for j, k in ((8, 0), (0, 8), (MANY, 0), (0, MANY), (8, 8)):
            self.assertEqual(run(put(0, *many), join(j, k), told(0))[1:], [[-1], listed(*many)])


class Together(unittest.TestCase):

    def test_several_calls_in_one_list_of_calls(self):
        line = [box(width=30, height=7, depth=2), glue(3, 1, 0, 1, 0)]
        answers = run(
            put(0, glyph(1, 10, 7, 2), glue(5, 5, 1), glyph(2, 10, 6, 1)), pack(0, 1, 0, 1, 30), put(2, *line),
            join(1, 2), pack(1, 1, 1, 1, 40, 0), unpack(1, 0, 3), unpack(3, 0, 4), told(4),
        )
        self.assertEqual(answers[:7], [[3], [0, 0], [2], [3], [1, 10000], [3], [3]])
        self.assertEqual(answers[7], listed(glyph(1, 10, 7, 2), glue(5, 5, 1), glyph(2, 10, 6, 1)))


if __name__ == "__main__":
    unittest.main()

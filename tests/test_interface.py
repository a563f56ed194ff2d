"""setpress.boxes.answers: how calls are handed in and answers given back."""

import unittest

import setpress.boxes
from helper import box, glue, glyph, join, kern, nested, pack, put, put_numbers, size, told, unpack


class Interface(unittest.TestCase):

    def test_number_by_number(self):
        calls = [
            0, 3, 5, 2, 1, 4, 1, -9,
            1, 3,
            2, 3, 0,
            3, 3, 4, 0, 1, 7, -1,
            1, 4,
            4, 4, 0, 5,
            5, 3, 5,
        ]
        expected = [
            1, 2,
            5, 2, 1, 4, 1, -9,
            3, -5, 0, 0,
            2, 1, 10000,
            15, 1, 6, 0, 7, 0, 0, 0, 0, 1, 0, 2, 1, 4, 1, -9,
            1, 2,
            1, 4,
        ]
        self.assertEqual(setpress.boxes.answers(calls), expected)

    def test_refusals_are_one_number(self):
        calls = told(8) + put_numbers(0, [1]) + unpack(0, 0, 0) + put(0, *[kern(1)] * 600) + join(0, 0)
        self.assertEqual(setpress.boxes.answers(calls), [1, -1, 1, -3, 1, -4, 1, 600, 1, -6])

    def test_a_refused_call_takes_all_its_numbers(self):
        calls = put(9, kern(1)) + size(9, 9) + pack(9, 9, 9, 9, 9, 9) + unpack(9, 9, 9) + join(9, 9) + told(0)
        self.assertEqual(setpress.boxes.answers(calls), [1, -1] * 5 + [1, 0])

    def test_any_call_first(self):
        for call, answer in ((put(0), [1, 0]), (told(0), [1, 0]), (size(0, 0), [3, 0, 0, 0]), (pack(0, 0), [2, 0, 0]),
                             (unpack(0, 0, 0), [1, -4]), (join(0, 0), [1, 0])):
            self.assertEqual(setpress.boxes.answers(call), answer)

    def test_sixteen_calls(self):
        self.assertEqual(setpress.boxes.answers(put(0, kern(1)) + join(0, 0) * 9 + size(0, 0) * 6),
                         [1, 1] + sum([[1, 2 ** step] for step in range(1, 10)], []) + [3, 512, 0, 0] * 6)

    def test_as_many_numbers_as_can_be(self):
        calls = put(0, *[kern(1)] * 999) + put(1, *[kern(2)] * 488) + pack(0, 2) + told(1)
        self.assertLessEqual(len(calls), 3000)
        numbers = setpress.boxes.answers(calls)
        self.assertEqual(numbers[:8], [1, 999, 1, 488, 1, -6, 977, 488])

    def test_whole_numbers_in_a_list(self):
        numbers = setpress.boxes.answers(put(0, glyph(), glue(1, 2, 0, 3, 0)) + pack(0, 1, 0, 2, 1) + told(1) + told(9))
        self.assertIs(type(numbers), list)
        self.assertEqual({type(number) for number in numbers}, {int})

    def test_what_is_handed_in_stays_as_it_was(self):
        calls = (put(0, box(kern(1)), glue(1, 2, 0, 3, 0)) + pack(0, 1, 1, 2, 9, 0) + unpack(0, 0, 0) + join(0, 1)
                 + join(0, 0) + size(0, 1) + told(0) + put_numbers(0, [5]) + put(9) + put(0, nested(9)))
        before = list(calls)
        setpress.boxes.answers(calls)
        self.assertEqual(calls, before)

    def test_what_is_handed_in_is_not_changed_for_a_while_either(self):
        class Watched(list):
            def refuse(self, *given):
                raise AssertionError("what is handed in was changed")
            append = extend = insert = pop = remove = clear = sort = reverse = refuse
            __setitem__ = __delitem__ = __iadd__ = __imul__ = refuse
        calls = put(0, box(kern(1))) + join(0, 0) + unpack(0, 1, 1) + told(0) + put(8) + put_numbers(3, [4])
        self.assertEqual(setpress.boxes.answers(Watched(calls)), setpress.boxes.answers(calls))

    def test_what_is_given_back_is_the_callers(self):
        calls = put(0, kern(1), box(kern(2))) + told(0)
        first = setpress.boxes.answers(calls)
        before = list(first)
        first.clear()
        self.assertEqual(setpress.boxes.answers(calls), before)

    def test_each_time_is_as_if_the_first(self):
        calls = put(0, kern(1)) + join(1, 0) + pack(1, 2) + told(2)
        first = setpress.boxes.answers(calls)
        for step in range(3):
            self.assertEqual(setpress.boxes.answers(calls), first)
        for k in range(8):
            self.assertEqual(setpress.boxes.answers(told(k)), [1, 0])


if __name__ == "__main__":
    unittest.main()

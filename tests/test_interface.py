"""setpress.boxes.answers: how calls are handed in and answers given back."""

import unittest

import setpress.boxes
from helper import (
    adjust, anchor, box, cut, fit, five, glue, glyph, insertion, join, kern, leaders, listed, mark, move, nested, pack,
    parted, penalty, places, put, put_numbers, run, shift, size, told, unpack,
)

# A history with each of the eleven calls, and with refusals behind them.
ALL_CALLS = [
    put(0, box(glyph(1), width=10, height=7, depth=2), mark(1), glue(3, 2, 0, 1, 0), penalty(-50),
        box(anchor(2), height=7), adjust(kern(4)), insertion(kern(5))),
    shift(0, 0, 4), fit(0, 3, 14, 0), cut(0, 1, 2, 14, 0, five(9)), move(2, 3), pack(1, 4, 1, 1, 15, 0),
    places(4, 0, 100, 50), join(3, 4), unpack(4, 0, 5), size(5, 1), told(3), put_numbers(0, [4]), shift(0, 1, 4),
    cut(0, 1, 1, 14), move(0, 0), cut(0, 1, 2, 14, 0, [1, 2]),
]


class Interface(unittest.TestCase):

    def test_number_by_number(self):
        calls = [
            0, 3, 5, 2, 1, 4, 1, -9,
            1, 3,
            2, 3, 0,
            3, 3, 4, 0, 1, 7, -1,
            1, 4,
            4, 4, 0, 5,
            5, 3, 5,
        ]
        expected = [
            1, 2,
            5, 2, 1, 4, 1, -9,
            3, -5, 0, 0,
            2, 1, 10000,
            15, 1, 6, 0, 7, 0, 0, 0, 0, 1, 0, 2, 1, 4, 1, -9,
            1, 2,
            1, 4,
        ]
        self.assertEqual(setpress.boxes.answers(calls), expected)

    def test_the_later_calls_number_by_number(self):
        calls = [
            0, 3, 15, 2, 9, 200, 6, 0, 10, 5, 1, 0, 0, 1, 9, 1, 11, 7,
            6, 3, 1, -8,
            7, 3, 2, 4, -1,
            8, 3, 1, -20, 30,
            9, 3, 4, 5, 0, -1, 5, 1, 2, 3, 4, 1,
            10, 4, 6,
            1, 4,
            1, 5,
            1, 6,
            8, 4, 0, 0, 0,
        ]
        expected = [
            1, 2,
            1, 0,
            2, 1, 1,
            4, 2, 7, -20, 30,
            1, 0,
            1, 1,
            13, 1, 6, 0, 10, 5, 1, 0, 0, 1, -8, 1, 11, 7,
            1, 0,
            3, 1, 9, 200,
            4, 2, 7, 0, 0,
        ]
        self.assertEqual(setpress.boxes.answers(calls), expected)

    def test_no_leaves_are_the_empty_list(self):
        self.assertEqual(setpress.boxes.answers(put(0, box(), box(glyph(5))) + places(0, 0) + places(0, 1) + told(1)),
                         [1, 2, 0, 4, 0, 5, 0, 0, 1, 0])

    def test_numbers_below_0_are_answers_too(self):
        calls = put(0, penalty(-1)) + cut(0, 1, 2, 0) + put(0, box(anchor(0))) + places(0, 0, -1, -1)
        self.assertEqual(setpress.boxes.answers(calls), [1, 1, 1, -1, 1, 1, 4, 2, 0, -1, -1])
        calls = put(0, box(penalty(-4)), penalty(-4)) + cut(0, 0, 2, 0) + shift(0, 0, 5)
        self.assertEqual(setpress.boxes.answers(calls), [1, 2, 1, -4, 1, 0])

    def test_refusals_are_one_number(self):
        calls = told(8) + put_numbers(0, [1]) + unpack(0, 0, 0) + put(0, *[kern(1)] * 600) + join(0, 0)
        self.assertEqual(setpress.boxes.answers(calls), [1, -1, 1, -3, 1, -4, 1, 600, 1, -6])

    def test_a_refused_call_takes_all_its_numbers(self):
        calls = put(9, kern(1)) + size(9, 9) + pack(9, 9, 9, 9, 9, 9) + unpack(9, 9, 9) + join(9, 9) + told(0)
        self.assertEqual(setpress.boxes.answers(calls), [1, -1] * 5 + [1, 0])
        calls = shift(9, 9, 9) + fit(9, 9, 9, 9) + places(9, 9, 9, 9) + cut(9, 9, 9, 9, 9, [9] * 9) + move(9, 9)
        self.assertEqual(setpress.boxes.answers(calls + cut(0, 1, 2, 9, 9, []) + told(0)), [1, -1] * 6 + [1, 0])

    def test_any_call_first(self):
        for call, answer in ((put(0), [1, 0]), (told(0), [1, 0]), (size(0, 0), [3, 0, 0, 0]), (pack(0, 0), [2, 0, 0]),
                             (unpack(0, 0, 0), [1, -4]), (join(0, 0), [1, 0]), (shift(0, 0, 0), [1, -4]),
                             (fit(0, 0, 0), [2, 0, 0]), (places(0, 0), [1, -4]), (cut(0, 0, 1, 0), [1, 0]),
                             (move(0, 1), [1, 0])):
            self.assertEqual(setpress.boxes.answers(call), answer)

    def test_sixteen_calls(self):
        self.assertEqual(setpress.boxes.answers(put(0, kern(1)) + join(0, 0) * 9 + size(0, 0) * 6),
                         [1, 1] + sum([[1, 2 ** step] for step in range(1, 10)], []) + [3, 512, 0, 0] * 6)

    def test_as_many_numbers_as_can_be(self):
        calls = put(0, *[kern(1)] * 999) + put(1, *[kern(2)] * 488) + pack(0, 2) + told(1)
        self.assertLessEqual(len(calls), 3000)
        numbers = setpress.boxes.answers(calls)
        self.assertEqual(numbers[:8], [1, 999, 1, 488, 1, -6, 977, 488])

    def test_three_thousand_numbers(self):
        dots = leaders(box(*[anchor(3)] * 300, width=5), 0, five(100))
        line = [box(dots, width=100), penalty(1)] + [box(height=1), penalty(0)] * 60
        marks = [mark(step % 256) for step in range(641)]
        calls = put(0, *line) + put(1, *marks) + places(0, 0) + cut(0, 2, 3, 30, 0, five(5)) + move(1, 4)
        calls += size(2, 1) + fit(0, 120, 61)
        calls += put_numbers(5, [0] * (3000 - len(calls) - 3))
        self.assertEqual(len(calls), 3000)
        answers = parted(setpress.boxes.answers(calls))
        self.assertEqual(answers[:2], [[122], [641]])
        self.assertEqual(answers[2], sum([[2, 3, 5 * copy, 0] * 300 for copy in range(16)], []))
        self.assertEqual(answers[3:], [[0], [641], [100, 30, 0], [0, 10000], [-3]])

    def test_a_list_of_two_thousand_numbers_all_the_way(self):
        things = [box(height=1), penalty(3)] * 166 + [anchor(1)] * 3
        self.assertEqual(len(listed(*things)), 1999)
        answers = run(put(0, *things), fit(0, 335, 166), cut(0, 1, 2, 100), move(0, 3), places(0, 330, 1, 1),
                      shift(0, 330, 5), told(1))
        self.assertEqual(answers[:6], [[335], [0, 0], [3], [0], [], [0]])
        self.assertEqual(answers[6], listed(*things[:199]))

    def test_whole_numbers_in_a_list(self):
        numbers = setpress.boxes.answers(put(0, glyph(), glue(1, 2, 0, 3, 0)) + pack(0, 1, 0, 2, 1) + told(1) + told(9))
        self.assertIs(type(numbers), list)
        self.assertEqual({type(number) for number in numbers}, {int})
        for part in (ALL_CALLS[:11], ALL_CALLS[11:]):
            self.assertEqual({type(number) for number in setpress.boxes.answers(sum(part, []))}, {int})

    def test_what_is_handed_in_stays_as_it_was(self):
        calls = (put(0, box(kern(1)), glue(1, 2, 0, 3, 0)) + pack(0, 1, 1, 2, 9, 0) + unpack(0, 0, 0) + join(0, 1)
                 + join(0, 0) + size(0, 1) + told(0) + put_numbers(0, [5]) + put(9) + put(0, nested(9)))
        before = list(calls)
        setpress.boxes.answers(calls)
        self.assertEqual(calls, before)
        calls = sum(ALL_CALLS, [])
        before = list(calls)
        setpress.boxes.answers(calls)
        self.assertEqual(calls, before)

    def test_what_is_handed_in_is_not_changed_for_a_while_either(self):
        class Watched(list):
            def refuse(self, *given):
                raise AssertionError("what is handed in was changed")
            append = extend = insert = pop = remove = clear = sort = reverse = refuse
            __setitem__ = __delitem__ = __iadd__ = __imul__ = refuse
        calls = put(0, box(kern(1))) + join(0, 0) + unpack(0, 1, 1) + told(0) + put(8) + put_numbers(3, [4])
        self.assertEqual(setpress.boxes.answers(Watched(calls)), setpress.boxes.answers(calls))
        for part in (ALL_CALLS[:11], ALL_CALLS[:1] + ALL_CALLS[11:]):
            calls = sum(part, [])
            self.assertEqual(setpress.boxes.answers(Watched(calls)), setpress.boxes.answers(calls))

    def test_what_is_given_back_is_the_callers(self):
        calls = put(0, kern(1), box(kern(2))) + told(0)
        first = setpress.boxes.answers(calls)
        before = list(first)
        first.clear()
        self.assertEqual(setpress.boxes.answers(calls), before)

    def test_each_time_is_as_if_the_first(self):
        for calls in (put(0, kern(1)) + join(1, 0) + pack(1, 2) + told(2), sum(ALL_CALLS, [])):
            first = setpress.boxes.answers(calls)
            for step in range(3):
                self.assertEqual(setpress.boxes.answers(calls), first)
        for k in range(8):
            self.assertEqual(setpress.boxes.answers(told(k)), [1, 0])

    def test_a_history_of_all_eleven_calls(self):
        answers = run(*ALL_CALLS)
        top = box(glyph(1), width=10, height=7, depth=2, shift=4)
        rest = [glue(2), box(anchor(2), height=7), adjust(kern(4)), insertion(kern(5))]
        upper = [top, mark(1), glue(3, 2, 0, 1, 0)]
        packed = box(*upper, direction=1, width=14, height=15, order=0, numerator=3, denominator=2)
        self.assertEqual(answers, [
            [7], [0], [0, 100], [-50], [2], [1, 337], [0, 1, 104, 42], [3], [3], [14, 12, 0],
            listed(kern(4), insertion(kern(5)), packed), [-3], [-4], [-1], [-1], [-1],
        ])
        self.assertEqual(run(*ALL_CALLS[:4], told(1), told(2))[4:], [listed(*upper), listed(*rest)])
        self.assertEqual(run(*ALL_CALLS[:5], told(2))[5], listed(*rest[:2]))


if __name__ == "__main__":
    unittest.main()

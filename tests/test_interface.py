"""How calls are told, and how answers are given back."""

import unittest

from cardpairs.remembered import answers
from helper import ALONE, COMES, LARGEST, MEEK, SHOWS, TABLE, ask, told


class Interface(unittest.TestCase):
    def test_the_count_stands_ahead_of_each_calls_answers(self):
        self.assertEqual(
            answers([0, 3, 1, 2, 1, 0, 2, 3, 4, 1, 0, 1, 6, 0, 0, 1, 0]),
            [1, 10, 3, 2, 0, 2, 3, 2, 0, 2, 3, 0, 14, 3, 3, 0, 6, 1, 1, -2, 1, -1, 1, -1],
        )

    def test_each_call_may_be_the_first_and_only_one(self):
        self.assertEqual(answers([0, 2, 1, 0]), [1, 4])
        self.assertEqual(answers([1, 3]), [1, -2])
        self.assertEqual(answers([2]), [3, 0, 0, 0])
        self.assertEqual(answers([3]), [3, 0, 0, 1])
        self.assertEqual(answers([4]), [3, 0, 0, 1])

    def test_numbers_of_a_refused_call_are_not_read_as_calls(self):
        self.assertEqual(ask((TABLE, LARGEST, 3, 4), (COMES, LARGEST), (SHOWS,)), [[-1], [-1], [0, 0, 0]])
        self.assertEqual(ask((TABLE, 2, 3, 4), (SHOWS,)), [[-1], [0, 0, 0]])

    def test_a_line_of_40_calls(self):
        rows = [(TABLE, 9, 0, 9)] + [(COMES, 4)] * 9 + [(COMES, 0)] * 9 + [(COMES, 5)] * 9
        rows += [(ALONE,)] * 4 + [(MEEK,)] * 4 + [(SHOWS,)] * 4
        self.assertEqual(len(rows), 40)
        expected = [[36]]
        expected += [[9, k, 9] for k in range(1, 10)]
        expected += [[n, n, 9] for n in range(8, -1, -1)]
        expected += [[0, 0, c] for c in range(8, -1, -1)]
        expected += [[0, 0, 1]] * 8 + [[0, 0, 0]] * 4
        self.assertEqual(ask(*rows), expected)

    def test_160_numbers(self):
        rows = [(TABLE, n % 10, 0, 9 - n % 10) for n in range(40)]
        self.assertEqual(len(told(rows)), 160)
        self.assertEqual(ask(*rows), [[18]] * 40)

    def test_8_of_alone_and_meek_on_the_largest_table(self):
        rows = ask((TABLE, 9, 0, 9), *[(ALONE,), (MEEK,)] * 4)
        self.assertEqual(rows[1:], [[0, 3523678, 153153], [0, 27, 1]] * 4)

    def test_what_is_handed_in_is_not_changed(self):
        calls = told([(TABLE, 4, 2, 1), (COMES, 2), (COMES, 9), (ALONE,), (MEEK,), (SHOWS,)])
        before = list(calls)
        answers(calls)
        self.assertEqual(calls, before)

    def test_nothing_is_kept_from_one_time_to_the_next(self):
        calls = told([(SHOWS,), (TABLE, 4, 2, 1), (COMES, 2), (ALONE,), (MEEK,)])
        first = answers(calls)
        kept = list(first)
        second = answers(calls)
        self.assertEqual(first, second)
        second.append(5)
        second[0] = 7
        self.assertEqual(answers(calls), kept)
        self.assertEqual(first, kept)
        self.assertEqual(answers([SHOWS]), [3, 0, 0, 0])

    def test_kinds(self):
        given = answers(told([(TABLE, 4, 2, 1), (COMES, 3), (COMES, 6), (SHOWS,), (ALONE,), (MEEK,)]))
        self.assertIs(type(given), list)
        for number in given:
            self.assertIs(type(number), int)


if __name__ == "__main__":
    unittest.main()

"""How calls are told, and how answers are given back."""

import unittest

from cardpairs.remembered import answers
from helper import (
    ALONE, BEST, CHANCES, COMES, FEWEST, LARGEST, LEAD, MEEK, OVER, SHOWS, TABLE, ask, told,
)

# Each call with its answers, about one table; all ten kinds, refused and not.
ALL_KINDS = [
    ((SHOWS,), [0, 0, 0]), ((BEST,), [-6]), ((CHANCES,), [-6]), ((OVER, 41), [-1]), ((FEWEST,), [0, 0]),
    ((LEAD,), [0, 0, 1]), ((TABLE, 10, 0, 0), [-1]), ((COMES, 5), [-2]), ((COMES, 6), [-1]), ((SHOWS,), [0, 0, 0]),
    ((TABLE, 4, 1, 9), [26]), ((CHANCES,), [0, 1, 7, 1, 6, 1, 6, 2, 3]), ((COMES, 2), [3, 1, 10]),
    ((SHOWS,), [3, 1, 10]), ((ALONE,), [0, 208, 15]), ((MEEK,), [0, 15, 1]), ((BEST,), [1, 0, 14, 15]),
    ((LEAD,), [0, 49, 5]), ((OVER, 13), [0, 1, 5]), ((CHANCES,), [0, 1, 5, 1, 4, 1, 4, 1, 2]),
    ((COMES, 5), [3, 1, 9]), ((COMES, 0), [2, 0, 9]), ((CHANCES,), [0, 0, 1, 1, 3, 0, 1, 2, 3]),
    ((BEST,), [1, 2, 0, 1]), ((TABLE, 2, 0, 0), [4]), ((LEAD,), [0, -2, 3]), ((CHANCES,), [0, 0, 1, 1, 3, 0, 1, 2, 3]),
    ((COMES, 4), [2, 1, 0]), ((CHANCES,), [0, 1, 3, 1, 2, 1, 2, 0, 1]), ((COMES, 2), [1, 1, 1]), ((CHANCES,), [-6]),
    ((COMES, 3), [-2]), ((COMES, 1), [-2]), ((COMES, 4), [-2]), ((COMES, LARGEST), [-1]), ((SHOWS,), [1, 1, 1]),
    ((COMES, 0), [0, 0, 1]), ((COMES, 5), [0, 0, 0]), ((TABLE, 0, 1, 0), [-1]), ((SHOWS,), [0, 0, 0]),
]


class Interface(unittest.TestCase):
    def test_the_count_stands_ahead_of_each_calls_answers(self):
        self.assertEqual(
            answers([0, 3, 1, 2, 1, 0, 2, 3, 4, 1, 0, 1, 6, 0, 0, 1, 0]),
            [1, 10, 3, 2, 0, 2, 3, 2, 0, 2, 3, 0, 14, 3, 3, 0, 6, 1, 1, -2, 1, -1, 1, -1],
        )

    def test_each_call_may_be_the_first_and_only_one(self):
        self.assertEqual(answers([0, 2, 1, 0]), [1, 4])
        self.assertEqual(answers([1, 3]), [1, -2])
        self.assertEqual(answers([2]), [3, 0, 0, 0])
        self.assertEqual(answers([3]), [3, 0, 0, 1])
        self.assertEqual(answers([4]), [3, 0, 0, 1])
        self.assertEqual(answers([5]), [1, -6])
        self.assertEqual(answers([6]), [3, 0, 0, 1])
        self.assertEqual(answers([7, 0]), [3, 0, 1, 1])
        self.assertEqual(answers([7, 41]), [1, -1])
        self.assertEqual(answers([8]), [1, -6])
        self.assertEqual(answers([9]), [2, 0, 0])

    def test_the_order_of_each_calls_numbers(self):
        self.assertEqual(
            answers([0, 3, 1, 0, 5, 6, 7, 3, 8, 9]),
            [1, 6, 4, 1, 0, 14, 15, 3, 0, -1, 5, 3, 0, 1, 5, 9, 0, 1, 5, 1, 4, 1, 4, 1, 2, 2, 3, 5],
        )

    def test_numbers_of_a_refused_call_are_not_read_as_calls(self):
        self.assertEqual(ask((TABLE, LARGEST, 3, 4), (COMES, LARGEST), (SHOWS,)), [[-1], [-1], [0, 0, 0]])
        self.assertEqual(ask((TABLE, 2, 3, 4), (SHOWS,)), [[-1], [0, 0, 0]])
        self.assertEqual(ask((OVER, LARGEST), (SHOWS,)), [[-1], [0, 0, 0]])

    def test_a_line_of_40_calls(self):
        rows = [(TABLE, 9, 0, 9)] + [(COMES, 4)] * 9 + [(COMES, 0)] * 9 + [(COMES, 5)] * 9
        rows += [(ALONE,)] * 4 + [(MEEK,)] * 4 + [(SHOWS,)] * 4
        self.assertEqual(len(rows), 40)
        expected = [[36]]
        expected += [[9, k, 9] for k in range(1, 10)]
        expected += [[n, n, 9] for n in range(8, -1, -1)]
        expected += [[0, 0, c] for c in range(8, -1, -1)]
        expected += [[0, 0, 1]] * 8 + [[0, 0, 0]] * 4
        self.assertEqual(ask(*rows), expected)

    def test_a_line_of_40_calls_of_all_ten_kinds(self):
        rows = [row for row, answer in ALL_KINDS]
        kinds = [row[0] for row in rows]
        self.assertEqual(len(rows), 40)
        self.assertEqual(set(kinds), set(range(10)))
        self.assertLessEqual(sum(kind in (ALONE, MEEK, LEAD, BEST) for kind in kinds), 8)
        self.assertLessEqual(sum(kind in (OVER, FEWEST) for kind in kinds), 3)
        self.assertEqual(ask(*rows), [answer for row, answer in ALL_KINDS])

    def test_the_largest_table_asked_as_often_as_is_let(self):
        rows = [(TABLE, 9, 0, 9)] + [(BEST,), (LEAD,), (ALONE,), (BEST,)] * 2 + [(OVER, 40), (OVER, 25), (FEWEST,)]
        rows += [(CHANCES,)] * 28
        given = ask(*rows)
        self.assertEqual(len(rows), 40)
        self.assertEqual(given[1:4], [[1, 1, 2774, 546975], [0, 1387 + 9 * 546975, 546975], [0, 3523678, 153153]])
        self.assertEqual(given[1:5], given[5:9])
        self.assertEqual(given[9], [0, 1, 1])
        self.assertLess(given[10][1], given[10][2])
        self.assertEqual(given[11], [18, 26])
        self.assertEqual(given[12:], [[0, 0, 1, 1, 17, 0, 1, 16, 17]] * 28)

    def test_no_call_but_table_and_comes_changes_the_table(self):
        rows = [(TABLE, 6, 2, 3)]
        for call in [(ALONE,), (MEEK,), (BEST,), (LEAD,), (OVER, 9), (OVER, 41), (CHANCES,), (FEWEST,)]:
            rows += [call, (SHOWS,)]
        self.assertEqual(ask(*rows)[2::2], [[6, 2, 3]] * 8)

    def test_160_numbers(self):
        rows = [(TABLE, n % 10, 0, 9 - n % 10) for n in range(40)]
        self.assertEqual(len(told(rows)), 160)
        self.assertEqual(ask(*rows), [[18]] * 40)

    def test_8_of_alone_and_meek_on_the_largest_table(self):
        rows = ask((TABLE, 9, 0, 9), *[(ALONE,), (MEEK,)] * 4)
        self.assertEqual(rows[1:], [[0, 3523678, 153153], [0, 27, 1]] * 4)

    def test_what_is_handed_in_is_not_changed(self):
        calls = told([row for row, answer in ALL_KINDS])
        before = list(calls)
        answers(calls)
        self.assertEqual(calls, before)

    def test_what_is_handed_in_is_not_changed_for_a_while_either(self):
        class Watched(list):
            def changed(self, *told):
                raise AssertionError("changed")

            append = clear = extend = insert = pop = remove = reverse = sort = changed
            __setitem__ = __delitem__ = __iadd__ = __imul__ = changed

        rows = [row for row, answer in ALL_KINDS]
        self.assertEqual(answers(Watched(told(rows))), answers(told(rows)))

    def test_nothing_is_kept_from_one_time_to_the_next(self):
        calls = told([row for row, answer in ALL_KINDS[:-2]] + [(TABLE, 4, 2, 1), (COMES, 2)])
        first = answers(calls)
        kept = list(first)
        second = answers(calls)
        self.assertEqual(first, second)
        second.append(5)
        second[0] = 7
        self.assertEqual(answers(calls), kept)
        self.assertEqual(first, kept)
        self.assertEqual(answers([SHOWS]), [3, 0, 0, 0])

    def test_kinds(self):
        given = answers(told([row for row, answer in ALL_KINDS]))
        self.assertIs(type(given), list)
        for number in given:
            self.assertIs(type(number), int)


if __name__ == "__main__":
    unittest.main()

"""Point 2."""

import unittest

from helper import ALL_TABLES, COMES, LARGEST, SHOWS, TABLE, ask


def expected(n, k, c, x):
    """What the document tells of one turn; None where it can't be."""
    unseen = n - k
    if x == 0:
        return [n - 1, k - 1, c] if k >= 1 else None
    if x == 1:
        return [n - 1, k, c] if unseen >= 1 else None
    if x == 2:
        return [n - 1, k, c + 1] if unseen >= 1 and k >= 1 else None
    if x == 3:
        return [n, k + 2, c] if unseen >= 2 else None
    if x == 4:
        return [n, k + 1, c] if unseen >= 1 else None
    return [n, k, c - 1] if c >= 1 else None


class Comes(unittest.TestCase):
    def behind(self, table, x, answer):
        with self.subTest(table=table, x=x):
            shown = list(table) if answer[0] < 0 else answer
            rows = ask((TABLE,) + table, (COMES, x), (SHOWS,))
            self.assertEqual(rows[1:], [answer, shown])

    def test_0_the_mate_of_a_known_one(self):
        self.behind((4, 2, 1), 0, [3, 1, 1])
        self.behind((1, 1, 0), 0, [0, 0, 0])
        self.behind((9, 9, 9), 0, [8, 8, 9])
        self.behind((4, 0, 1), 0, [-2])
        self.behind((9, 0, 0), 0, [-2])

    def test_1_new_and_then_its_mate(self):
        self.behind((4, 2, 1), 1, [3, 2, 1])
        self.behind((1, 0, 0), 1, [0, 0, 0])
        self.behind((4, 3, 0), 1, [3, 3, 0])
        self.behind((4, 4, 1), 1, [-2])
        self.behind((0, 0, 3), 1, [-2])

    def test_2_new_and_then_the_mate_of_a_known_one(self):
        self.behind((4, 2, 1), 2, [3, 2, 2])
        self.behind((2, 1, 0), 2, [1, 1, 1])
        self.behind((4, 0, 1), 2, [-2])
        self.behind((4, 4, 1), 2, [-2])

    def test_2_may_bring_c_above_9(self):
        self.behind((4, 2, 9), 2, [3, 2, 10])
        rows = ask((TABLE, 9, 1, 9), *[(COMES, 2)] * 9)
        self.assertEqual(rows[8], [1, 1, 17])
        self.assertEqual(rows[9], [-2])

    def test_3_two_new_ones(self):
        self.behind((4, 2, 1), 3, [4, 4, 1])
        self.behind((2, 0, 0), 3, [2, 2, 0])
        self.behind((4, 3, 1), 3, [-2])
        self.behind((1, 0, 0), 3, [-2])
        self.behind((4, 4, 1), 3, [-2])

    def test_4_new_and_then_meek(self):
        self.behind((4, 2, 1), 4, [4, 3, 1])
        self.behind((4, 3, 1), 4, [4, 4, 1])
        self.behind((1, 0, 0), 4, [1, 1, 0])
        self.behind((4, 4, 1), 4, [-2])

    def test_5_one_of_the_known_pairs(self):
        self.behind((4, 2, 1), 5, [4, 2, 0])
        self.behind((0, 0, 9), 5, [0, 0, 8])
        self.behind((4, 2, 0), 5, [-2])

    def test_every_table_and_every_x(self):
        for n, k, c in ALL_TABLES:
            for x in range(6):
                self.behind((n, k, c), x, expected(n, k, c, x) or [-2])

    def test_x_above_5(self):
        for x in (6, 7, 100, LARGEST):
            self.behind((4, 2, 1), x, [-1])

    def test_of_both_refusals_the_one_told_first(self):
        for x in (6, LARGEST):
            self.behind((0, 0, 0), x, [-1])
            self.assertEqual(ask((COMES, x)), [[-1]])

    def test_the_empty_table(self):
        for x in range(6):
            with self.subTest(x=x):
                self.assertEqual(ask((COMES, x), (SHOWS,)), [[-2], [0, 0, 0]])

    def test_a_whole_game(self):
        rows = ask((TABLE, 4, 0, 0), *[(COMES, x) for x in (3, 2, 4, 0, 0, 1, 0, 5, 5)])
        self.assertEqual(rows, [
            [8], [4, 2, 0], [3, 2, 1], [3, 3, 1], [2, 2, 1], [1, 1, 1],
            [-2], [0, 0, 1], [0, 0, 0], [-2],
        ])


if __name__ == "__main__":
    unittest.main()

"""chances, and point 3 for chances."""

import collections
import math
import unittest
from fractions import Fraction

from helper import ALL_PLACES, CHANCES, COMES, SHOWS, TABLE, ask, cards_left, orders

UNSEEN_LEFT = [(n, k) for n, k in ALL_PLACES if n > k]


def row_of(values):
    return [0] + [number for value in values for number in (value.numerator, value.denominator)]


def real_chances(n, k):
    known = range(k)
    games = list(orders(cards_left(n, k)))
    new = [order for order in games if order[0] not in known]
    seconds = collections.Counter()
    for first, second in (order[:2] for order in new):
        seconds["its mate" if second == first else "known" if second in known else "new"] += 1
    found = [Fraction(len(games) - len(new), len(games))]
    return found + [Fraction(seconds[what], len(new)) for what in ("its mate", "known", "new")]


def chances(n, k, c):
    return ask((TABLE, n, k, c), (CHANCES,))[1]


class ChancesThatAreRefused(unittest.TestCase):
    def refused(self, n, k, c):
        with self.subTest(n=n, k=k, c=c):
            rows = ask((TABLE, n, k, c), (SHOWS,), (CHANCES,), (SHOWS,))
            self.assertEqual(rows[1:], [[n, k, c], [-6], [n, k, c]])

    def test_the_empty_table(self):
        self.assertEqual(ask((CHANCES,), (SHOWS,)), [[-6], [0, 0, 0]])
        self.refused(0, 0, 0)

    def test_n_0_and_c_above_0(self):
        for c in range(1, 10):
            self.refused(0, 0, c)

    def test_k_as_many_as_n(self):
        for n in range(1, 10):
            for c in (0, 1, 9):
                self.refused(n, n, c)

    def test_behind_what_comes(self):
        rows = ask((TABLE, 3, 1, 0), (COMES, 3), (CHANCES,), (SHOWS,), (COMES, 0))
        self.assertEqual(rows[1:], [[3, 3, 0], [-6], [3, 3, 0], [2, 2, 0]])

    def test_the_largest_c(self):
        rows = ask((TABLE, 9, 1, 9), *[(COMES, 2)] * 8, (CHANCES,), (SHOWS,))
        self.assertEqual(rows[9:], [[-6], [1, 1, 17]])


class ChancesThatAreLet(unittest.TestCase):
    def test_k_0(self):
        self.assertEqual(chances(1, 0, 0), [0, 0, 1, 1, 1, 0, 1, 0, 1])
        self.assertEqual(chances(2, 0, 0), [0, 0, 1, 1, 3, 0, 1, 2, 3])
        self.assertEqual(chances(9, 0, 0), [0, 0, 1, 1, 17, 0, 1, 16, 17])

    def test_n_one_more_than_k(self):
        self.assertEqual(chances(2, 1, 0), [0, 1, 3, 1, 2, 1, 2, 0, 1])
        self.assertEqual(chances(9, 8, 0), [0, 4, 5, 1, 9, 8, 9, 0, 1])

    def test_worked_by_hand(self):
        self.assertEqual(chances(3, 1, 0), [0, 1, 5, 1, 4, 1, 4, 1, 2])
        self.assertEqual(chances(5, 2, 0), [0, 1, 4, 1, 7, 2, 7, 4, 7])
        self.assertEqual(chances(9, 3, 0), [0, 1, 5, 1, 14, 3, 14, 5, 7])

    def test_real_games(self):
        for n in range(1, 5):
            for k in range(n):
                with self.subTest(n=n, k=k):
                    self.assertEqual(chances(n, k, 0), row_of(real_chances(n, k)))

    def test_every_table(self):
        for n, k in UNSEEN_LEFT:
            u = 2 * n - k
            expected = row_of([
                Fraction(k, u), Fraction(1, u - 1), Fraction(k, u - 1), Fraction(2 * (n - k - 1), u - 1),
            ])
            for c in (0, 1, 9):
                with self.subTest(n=n, k=k, c=c):
                    self.assertEqual(chances(n, k, c), expected)

    def test_lowest_terms_and_whole_together(self):
        for n, k in UNSEEN_LEFT:
            row = chances(n, k, 0)
            pairs = list(zip(row[1::2], row[2::2]))
            with self.subTest(n=n, k=k):
                self.assertEqual(len(row), 9)
                self.assertEqual([math.gcd(above, below) for above, below in pairs], [1] * 4)
                self.assertEqual(sum(Fraction(above, below) for above, below in pairs[1:]), 1)

    def test_behind_what_comes(self):
        rows = ask((TABLE, 4, 1, 9), (COMES, 2), (CHANCES,), (SHOWS,))
        self.assertEqual(rows[1:], [[3, 1, 10], [0, 1, 5, 1, 4, 1, 4, 1, 2], [3, 1, 10]])


if __name__ == "__main__":
    unittest.main()

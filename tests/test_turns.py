"""alone and meek."""

import itertools
import math
import unittest
from fractions import Fraction
from functools import lru_cache

from helper import (
    ALL_PLACES, ALL_TABLES, ALONE, COMES, MEEK, SHOWS, TABLE, ask, cards_left, fraction_row, orders, played,
)


def played_average(n, k, is_bold):
    games = [played(order, k, is_bold) for order in orders(cards_left(n, k))]
    return Fraction(sum(games), len(games))


def every_way_to_choose(n):
    places = [(m, j) for m in range(1, n + 1) for j in range(m)]
    for chosen in itertools.product((True, False), repeat=len(places)):
        yield dict(zip(places, chosen))


@lru_cache(maxsize=None)
def fewest(n, k):
    if n == k:
        return Fraction(n)
    unknown = 2 * n - k
    mate = Fraction(k, unknown)
    taken = fewest(n - 1, k)
    bold = (taken + k * (taken + 1)) / (unknown - 1)
    if n - k > 1:
        bold += Fraction(2 * (n - k - 1), unknown - 1) * fewest(n, k + 2)
    best = min(bold, fewest(n, k + 1))
    known = fewest(n - 1, k - 1) if k else 0
    return 1 + mate * known + (1 - mate) * best


def turns(call, n, k, c):
    return ask((TABLE, n, k, c), (call,))[1]


class Alone(unittest.TestCase):
    def test_the_empty_table(self):
        self.assertEqual(ask((ALONE,)), [[0, 0, 1]])
        self.assertEqual(turns(ALONE, 0, 0, 0), [0, 0, 1])

    def test_c_alone(self):
        for c in range(10):
            self.assertEqual(turns(ALONE, 0, 0, c), [0, c, 1])

    def test_one_card_of_each_known(self):
        for n in range(10):
            for c in (0, 9):
                self.assertEqual(turns(ALONE, n, n, c), [0, n + c, 1])

    def test_worked_by_hand(self):
        for n, k, c, above, below in [
            (1, 0, 0, 1, 1), (2, 1, 0, 7, 3), (2, 0, 0, 8, 3), (3, 2, 0, 7, 2),
            (3, 1, 0, 58, 15), (3, 0, 0, 13, 3), (2, 1, 4, 19, 3), (3, 2, 1, 9, 2),
        ]:
            with self.subTest(n=n, k=k, c=c):
                self.assertEqual(turns(ALONE, n, k, c), [0, above, below])

    def test_n_9(self):
        self.assertEqual(turns(ALONE, 9, 0, 0), [0, 2145301, 153153])
        self.assertEqual(turns(ALONE, 9, 0, 9), [0, 2145301 + 9 * 153153, 153153])
        self.assertEqual(turns(ALONE, 9, 8, 0), fraction_row(fewest(9, 8)))

    def test_best_of_all_ways_to_choose_in_real_games(self):
        for n in range(4):
            for k in range(n + 1):
                best = min(
                    played_average(n, k, lambda m, j: way[(m, j)])
                    for way in every_way_to_choose(n)
                )
                with self.subTest(n=n, k=k):
                    self.assertEqual(turns(ALONE, n, k, 0), fraction_row(best))

    def test_as_always_bold_in_real_games(self):
        for k in range(5):
            bold = played_average(4, k, lambda m, j: True)
            with self.subTest(k=k):
                # The document: alone it's always better to be bold.
                self.assertEqual(turns(ALONE, 4, k, 0), fraction_row(bold))

    def test_every_table(self):
        for n, k, c in ALL_TABLES:
            with self.subTest(n=n, k=k, c=c):
                self.assertEqual(turns(ALONE, n, k, c), fraction_row(fewest(n, k) + c))

    def test_lowest_terms(self):
        for n, k in ALL_PLACES:
            zero, above, below = turns(ALONE, n, k, 1)
            with self.subTest(n=n, k=k):
                self.assertEqual(zero, 0)
                self.assertEqual(math.gcd(above, below), 1)
                self.assertGreater(below, 0)

    def test_behind_what_comes(self):
        rows = ask((TABLE, 4, 1, 9), (COMES, 2), (ALONE,), (SHOWS,))
        self.assertEqual(rows[1:], [[3, 1, 10], [0, 58 + 150, 15], [3, 1, 10]])

    def test_behind_a_refusal(self):
        rows = ask((TABLE, 2, 1, 0), (TABLE, 10, 0, 0), (COMES, 5), (ALONE,))
        self.assertEqual(rows, [[4], [-1], [-2], [0, 7, 3]])


class Meek(unittest.TestCase):
    def test_the_empty_table(self):
        self.assertEqual(ask((MEEK,)), [[0, 0, 1]])

    def test_c_alone(self):
        for c in range(10):
            self.assertEqual(turns(MEEK, 0, 0, c), [0, c, 1])

    def test_one_card_of_each_known(self):
        for n in range(10):
            for c in (0, 9):
                self.assertEqual(turns(MEEK, n, n, c), [0, n + c, 1])

    def test_worked_by_hand(self):
        for n, k, c, above in [(1, 0, 0, 2), (2, 1, 0, 3), (2, 0, 0, 4), (3, 1, 2, 7)]:
            with self.subTest(n=n, k=k, c=c):
                self.assertEqual(turns(MEEK, n, k, c), [0, above, 1])

    def test_n_9(self):
        self.assertEqual(turns(MEEK, 9, 0, 0), [0, 18, 1])
        self.assertEqual(turns(MEEK, 9, 4, 9), [0, 23, 1])

    def test_real_games(self):
        for n in range(5):
            for k in range(n + 1):
                average = played_average(n, k, lambda m, j: False)
                with self.subTest(n=n, k=k):
                    self.assertEqual(turns(MEEK, n, k, 0), fraction_row(average))

    def test_every_table(self):
        for n, k, c in ALL_TABLES:
            with self.subTest(n=n, k=k, c=c):
                self.assertEqual(turns(MEEK, n, k, c), [0, 2 * n - k + c, 1])

    def test_changes_nothing(self):
        rows = ask((TABLE, 5, 2, 1), (MEEK,), (ALONE,), (MEEK,), (SHOWS,))
        self.assertEqual(rows[1], rows[3])
        self.assertEqual(rows[4], [5, 2, 1])


if __name__ == "__main__":
    unittest.main()

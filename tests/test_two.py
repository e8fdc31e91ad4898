"""best and lead, and point 3 for best."""

import math
import unittest
from fractions import Fraction
from functools import lru_cache

from helper import (
    ALL_PLACES, ALL_TABLES, BEST, COMES, LEAD, SHOWS, TABLE, ask, cards_left, fraction_row, orders, played,
)

MEEK_IS_BEST, BOLD_IS_BEST, BOTH_AS_GOOD = range(3)
UNSEEN_LEFT = [(n, k) for n, k in ALL_PLACES if n > k]


def grouped(games, place):
    groups = {}
    for order in games:
        groups.setdefault(order[place], []).append(order)
    return groups.items()


def real_lead(games, place, known, both):
    """The lead over games that are alike up to place, each player having seen just what lies ahead of it."""
    if both:
        return both + real_lead(games, place, known, 0)
    if place == len(games[0]):
        return Fraction(0)
    return max(real_turn(games, place, known, is_bold) for is_bold in (True, False))


def real_turn(games, place, known, is_bold):
    total = Fraction(0)
    for first, alike in grouped(games, place):
        if first in known:
            value = 1 + real_lead(alike, place + 1, known - {first}, 0)
        elif is_bold:
            value = real_second(alike, place + 1, known, first)
        else:
            value = -real_lead(alike, place + 1, known | {first}, 0)
        total += value * len(alike)
    return total / len(games)


def real_second(games, place, known, first):
    total = Fraction(0)
    for second, alike in grouped(games, place):
        if second == first:
            value = 1 + real_lead(alike, place + 1, known, 0)
        elif second in known:
            value = -real_lead(alike, place + 1, known - {second} | {first}, 1)
        else:
            value = -real_lead(alike, place + 1, known | {first, second}, 0)
        total += value * len(alike)
    return total / len(games)


@lru_cache(maxsize=None)
def real_bold_and_meek(n, k):
    games = list(orders(cards_left(n, k)))
    return tuple(real_turn(games, 0, frozenset(range(k)), is_bold) for is_bold in (True, False))


@lru_cache(maxsize=None)
def lead(n, k):
    return Fraction(n) if n == k else max(bold_and_meek(n, k))


@lru_cache(maxsize=None)
def bold_and_meek(n, k):
    unknown = 2 * n - k
    mate = Fraction(k, unknown)
    ahead = mate * (1 + lead(n - 1, k - 1)) if k else 0
    bold = Fraction(1 - k, unknown - 1) * (1 + lead(n - 1, k))
    if n - k > 1:
        bold -= Fraction(2 * (n - k - 1), unknown - 1) * lead(n, k + 2)
    meek = -lead(n, k + 1)
    return ahead + (1 - mate) * bold, ahead + (1 - mate) * meek


def which(bold, meek):
    if bold == meek:
        return BOTH_AS_GOOD
    return BOLD_IS_BEST if bold > meek else MEEK_IS_BEST


def asked(call, n, k, c):
    return ask((TABLE, n, k, c), (call,))[1]


class Lead(unittest.TestCase):
    def test_the_empty_table(self):
        self.assertEqual(ask((LEAD,)), [[0, 0, 1]])
        self.assertEqual(asked(LEAD, 0, 0, 0), [0, 0, 1])

    def test_c_alone(self):
        for c in range(10):
            self.assertEqual(asked(LEAD, 0, 0, c), [0, c, 1])

    def test_one_card_of_each_known(self):
        for n in range(10):
            for c in (0, 9):
                self.assertEqual(asked(LEAD, n, n, c), [0, n + c, 1])

    def test_worked_by_hand(self):
        for n, k, above, below in [
            (1, 0, 1, 1), (2, 1, 2, 3), (2, 0, -2, 3), (3, 2, 1, 3), (3, 1, -1, 5), (3, 0, 1, 5), (4, 3, 0, 1),
        ]:
            with self.subTest(n=n, k=k):
                self.assertEqual(asked(LEAD, n, k, 0), [0, above, below])

    def test_c_above_0_beside_c_0(self):
        # The one at turn takes these pairs, then goes on with the same n and k.
        self.assertEqual(asked(LEAD, 2, 0, 1), [0, 1, 3])
        self.assertEqual(asked(LEAD, 2, 0, 9), [0, 25, 3])
        self.assertEqual(asked(LEAD, 3, 1, 1), [0, 4, 5])
        self.assertEqual(asked(LEAD, 4, 3, 2), [0, 2, 1])
        for n, k, c in ALL_TABLES:
            zero, above, below = asked(LEAD, n, k, 0)
            with self.subTest(n=n, k=k, c=c):
                self.assertEqual(asked(LEAD, n, k, c), [zero, above + c * below, below])

    def test_n_9(self):
        self.assertEqual(asked(LEAD, 9, 0, 0), [0, 1387, 546975])
        self.assertEqual(asked(LEAD, 9, 8, 0), [0, -5, 3])
        self.assertEqual(asked(LEAD, 9, 9, 0), [0, 9, 1])

    def test_real_games(self):
        for n in range(1, 5):
            for k in range(n + 1):
                with self.subTest(n=n, k=k):
                    self.assertEqual(asked(LEAD, n, k, 0), fraction_row(max(real_bold_and_meek(n, k))))

    def test_every_table(self):
        for n, k, c in ALL_TABLES:
            with self.subTest(n=n, k=k, c=c):
                self.assertEqual(asked(LEAD, n, k, c), fraction_row(lead(n, k) + c))

    def test_lowest_terms(self):
        for n, k in ALL_PLACES:
            zero, above, below = asked(LEAD, n, k, 0)
            with self.subTest(n=n, k=k):
                self.assertEqual(zero, 0)
                self.assertEqual(math.gcd(above, below), 1)
                self.assertGreater(below, 0)

    def test_behind_what_comes(self):
        rows = ask((TABLE, 4, 1, 9), (COMES, 2), (LEAD,), (COMES, 4), (LEAD,), (SHOWS,))
        self.assertEqual(rows[1:], [[3, 1, 10], [0, 49, 5], [3, 2, 10], [0, 31, 3], [3, 2, 10]])

    def test_the_largest_c(self):
        rows = ask((TABLE, 9, 1, 9), *[(COMES, 2)] * 8, (LEAD,), (COMES, 0), (LEAD,))
        self.assertEqual(rows[8:], [[1, 1, 17], [0, 18, 1], [0, 0, 17], [0, 17, 1]])

    def test_behind_a_refusal(self):
        rows = ask((TABLE, 2, 0, 0), (TABLE, 10, 0, 0), (COMES, 5), (LEAD,), (SHOWS,))
        self.assertEqual(rows, [[4], [-1], [-2], [0, -2, 3], [2, 0, 0]])


class BestThatIsRefused(unittest.TestCase):
    def refused(self, n, k, c):
        with self.subTest(n=n, k=k, c=c):
            rows = ask((TABLE, n, k, c), (SHOWS,), (BEST,), (SHOWS,), (LEAD,))
            self.assertEqual(rows[1:], [[n, k, c], [-6], [n, k, c], [0, n + c, 1]])

    def test_the_empty_table(self):
        self.assertEqual(ask((BEST,), (SHOWS,)), [[-6], [0, 0, 0]])
        self.refused(0, 0, 0)

    def test_n_0_and_c_above_0(self):
        for c in range(1, 10):
            self.refused(0, 0, c)

    def test_k_as_many_as_n(self):
        for n in range(1, 10):
            for c in (0, 1, 9):
                self.refused(n, n, c)

    def test_behind_what_comes(self):
        rows = ask((TABLE, 2, 1, 0), (COMES, 4), (BEST,), (SHOWS,))
        self.assertEqual(rows[1:], [[2, 2, 0], [-6], [2, 2, 0]])

    def test_the_largest_c(self):
        rows = ask((TABLE, 9, 1, 9), *[(COMES, 2)] * 8, (BEST,), (COMES, 0), (BEST,), (SHOWS,))
        self.assertEqual(rows[8:], [[1, 1, 17], [-6], [0, 0, 17], [-6], [0, 0, 17]])


class BestThatIsLet(unittest.TestCase):
    def test_n_one_more_than_k(self):
        for n, above, below in [
            (1, 2, 1), (2, 4, 3), (3, 1, 1), (4, 4, 5), (5, 2, 3), (6, 4, 7), (7, 1, 2), (8, 4, 9), (9, 2, 5),
        ]:
            with self.subTest(n=n):
                self.assertEqual(asked(BEST, n, n - 1, 0), [1, BOLD_IS_BEST, above, below])

    def test_k_0(self):
        self.assertEqual(asked(BEST, 1, 0, 0), [1, BOLD_IS_BEST, 2, 1])
        self.assertEqual(asked(BEST, 2, 0, 0), [1, BOTH_AS_GOOD, 0, 1])
        self.assertEqual(asked(BEST, 3, 0, 0), [1, MEEK_IS_BEST, 2, 5])
        self.assertEqual(asked(BEST, 9, 0, 0), [1, BOLD_IS_BEST, 2774, 546975])

    def test_by_how_much_is_told_ahead_of_the_first_card(self):
        # Behind a new first card meek is better by 7 / 6, and 4 of the 5 cards are new.
        self.assertEqual(asked(BEST, 3, 1, 0), [1, MEEK_IS_BEST, 14, 15])

    def test_both_as_good(self):
        found = [(n, k) for n, k in UNSEEN_LEFT if asked(BEST, n, k, 0)[1] == BOTH_AS_GOOD]
        self.assertEqual(found, [(2, 0), (7, 0)])
        self.assertEqual(asked(BEST, 7, 0, 0), [1, BOTH_AS_GOOD, 0, 1])

    def test_alone_bold_is_always_better(self):
        for n, k in UNSEEN_LEFT:
            with self.subTest(n=n, k=k):
                self.assertEqual(asked(BEST, n, k, 0)[0], BOLD_IS_BEST)

    def test_alone_in_real_games(self):
        for n in range(1, 5):
            for k in range(n):
                games = list(orders(cards_left(n, k)))
                bold = sum(played(order, k, lambda m, j: True) for order in games)
                meek_once = sum(played(order, k, lambda m, j: (m, j) != (n, k)) for order in games)
                with self.subTest(n=n, k=k):
                    self.assertEqual(asked(BEST, n, k, 0)[0], which(-bold, -meek_once))

    def test_two_in_real_games(self):
        for n in range(1, 5):
            for k in range(n):
                bold, meek = real_bold_and_meek(n, k)
                with self.subTest(n=n, k=k):
                    expected = [which(bold, meek)] + fraction_row(abs(bold - meek))[1:]
                    self.assertEqual(asked(BEST, n, k, 0)[1:], expected)

    def test_every_table(self):
        for n, k in UNSEEN_LEFT:
            bold, meek = bold_and_meek(n, k)
            expected = [BOLD_IS_BEST, which(bold, meek)] + fraction_row(abs(bold - meek))[1:]
            for c in (0, 1, 9):
                with self.subTest(n=n, k=k, c=c):
                    self.assertEqual(asked(BEST, n, k, c), expected)

    def test_lowest_terms(self):
        for n, k in UNSEEN_LEFT:
            above, below = asked(BEST, n, k, 0)[2:]
            with self.subTest(n=n, k=k):
                self.assertEqual(math.gcd(above, below), 1)
                self.assertGreaterEqual(above, 0)
                self.assertGreater(below, 0)

    def test_behind_what_comes(self):
        rows = ask((TABLE, 4, 1, 9), (COMES, 2), (BEST,), (COMES, 4), (BEST,), (SHOWS,))
        self.assertEqual(
            rows[1:],
            [[3, 1, 10], [1, MEEK_IS_BEST, 14, 15], [3, 2, 10], [1, BOLD_IS_BEST, 1, 1], [3, 2, 10]],
        )


if __name__ == "__main__":
    unittest.main()

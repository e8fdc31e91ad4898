"""over and fewest, and point 4."""

import collections
import math
import unittest
from fractions import Fraction
from functools import lru_cache

from helper import (
    ALL_PLACES, ALL_TABLES, ALONE, COMES, FEWEST, LARGEST, OVER, SHOWS, TABLE, ask, cards_left, fraction_row, orders,
    played,
)

LARGEST_T = 40


@lru_cache(maxsize=None)
def real_turns(n, k):
    """How many real games end behind how many turns, always bold."""
    return collections.Counter(played(order, k, lambda m, j: True) for order in orders(cards_left(n, k)))


def real_chance(n, k, t):
    games = real_turns(n, k)
    return Fraction(sum(games[turns] for turns in games if turns <= t), sum(games.values()))


@lru_cache(maxsize=None)
def spread(n, k):
    """How likely just so many turns are, as (turns, chance) pairs; 0 turns where nothing is left."""
    if n == 0:
        return ((0, Fraction(1)),)
    unknown = 2 * n - k
    found = collections.Counter()

    def add(weight, below, more):
        if weight:
            for turns, chance in spread(*below):
                found[turns + more] += weight * chance

    mate = Fraction(k, unknown)
    add(mate, (n - 1, k - 1), 1)
    if n > k:
        each = (1 - mate) / (unknown - 1)
        add(each, (n - 1, k), 1)
        add(each * k, (n - 1, k), 2)
        add(each * 2 * (n - k - 1), (n, k + 2), 1)
    return tuple(sorted(found.items()))


def chance(n, k, c, t):
    return sum((likely for turns, likely in spread(n, k) if turns + c <= t), Fraction(0))


def most_by_hand(n, k):
    """A turn costs as many turns as it turns up cards that weren't known, or one fewer: that at first where k is 0."""
    return 2 * n - 1 if n and not k else 2 * n - k


def over(n, k, c, t):
    return ask((TABLE, n, k, c), (OVER, t))[1]


def fewest(n, k, c):
    return ask((TABLE, n, k, c), (FEWEST,))[1]


class OverThatIsRefused(unittest.TestCase):
    def test_t_above_40(self):
        for t in (41, 42, 100, LARGEST):
            with self.subTest(t=t):
                self.assertEqual(ask((OVER, t), (SHOWS,)), [[-1], [0, 0, 0]])
                rows = ask((TABLE, 3, 1, 2), (OVER, t), (SHOWS,), (OVER, 5), (COMES, 3))
                self.assertEqual(rows[1:], [[-1], [3, 1, 2], [0, 1, 5], [3, 3, 2]])

    def test_t_0_to_40_is_let(self):
        for t in range(LARGEST_T + 1):
            with self.subTest(t=t):
                self.assertEqual(over(0, 0, 0, t), [0, 1, 1])
                self.assertEqual(over(1, 0, 0, t), [0, 1, 1] if t else [0, 0, 1])

    def test_edges(self):
        self.assertEqual(over(9, 0, 9, 0), [0, 0, 1])
        self.assertEqual(over(9, 0, 9, 40), [0, 1, 1])
        self.assertEqual(over(9, 0, 9, 41), [-1])
        self.assertEqual(over(9, 0, 9, LARGEST), [-1])


class Over(unittest.TestCase):
    def test_the_empty_table(self):
        self.assertEqual(ask((OVER, 0), (OVER, 1), (OVER, 40)), [[0, 1, 1]] * 3)

    def test_c_alone(self):
        for c in range(10):
            for t in range(12):
                with self.subTest(c=c, t=t):
                    self.assertEqual(over(0, 0, c, t), [0, 1, 1] if t >= c else [0, 0, 1])

    def test_one_card_of_each_known(self):
        for n in range(1, 10):
            for c in (0, 9):
                with self.subTest(n=n, c=c):
                    self.assertEqual(over(n, n, c, n + c - 1), [0, 0, 1])
                    self.assertEqual(over(n, n, c, n + c), [0, 1, 1])

    def test_worked_by_hand(self):
        for n, k, t, above, below in [
            (1, 0, 0, 0, 1), (1, 0, 1, 1, 1),
            (2, 0, 1, 0, 1), (2, 0, 2, 1, 3), (2, 0, 3, 1, 1),
        ]:
            with self.subTest(n=n, k=k, t=t):
                self.assertEqual(over(n, k, 0, t), [0, above, below])

    def test_a_pair_that_is_known_but_not_taken_costs_a_turn_of_its_own(self):
        for n, k, t, above, below in [
            (2, 1, 1, 0, 1), (2, 1, 2, 2, 3), (2, 1, 3, 1, 1),
            (3, 2, 2, 0, 1), (3, 2, 3, 1, 2), (3, 2, 4, 1, 1),
        ]:
            for c in (0, 1, 9):
                with self.subTest(n=n, k=k, c=c, t=t):
                    self.assertEqual(over(n, k, c, t + c), [0, above, below])

    def test_c_above_0(self):
        self.assertEqual(over(2, 1, 4, 2), [0, 0, 1])
        self.assertEqual(over(2, 1, 4, 5), [0, 0, 1])
        self.assertEqual(over(2, 1, 4, 6), [0, 2, 3])
        self.assertEqual(over(2, 1, 4, 7), [0, 1, 1])

    def test_n_9(self):
        self.assertEqual(over(9, 0, 0, 8), [0, 0, 1])
        # Each turn finds a pair: one chance in 17, then 15, and so on.
        self.assertEqual(over(9, 0, 0, 9), [0, 1, 34459425])
        self.assertEqual(over(9, 0, 0, 17), [0, 1, 1])
        self.assertEqual(over(9, 9, 0, 9), [0, 1, 1])
        for t in range(9, 18):
            with self.subTest(t=t):
                self.assertEqual(over(9, 0, 0, t), fraction_row(chance(9, 0, 0, t)))

    def test_real_games(self):
        for n in range(1, 5):
            for k in range(n + 1):
                for t in range(2 * n + 2):
                    with self.subTest(n=n, k=k, t=t):
                        self.assertEqual(over(n, k, 0, t), fraction_row(real_chance(n, k, t)))

    def test_every_place(self):
        for n, k in ALL_PLACES:
            for t in range(2 * n + 2):
                with self.subTest(n=n, k=k, t=t):
                    self.assertEqual(over(n, k, 0, t), fraction_row(chance(n, k, 0, t)))

    def test_every_table(self):
        for n, k, c in ALL_TABLES:
            for t in (c, n + c, n + c + 1, LARGEST_T):
                with self.subTest(n=n, k=k, c=c, t=t):
                    self.assertEqual(over(n, k, c, t), fraction_row(chance(n, k, c, t)))

    def test_held_against_alone(self):
        # Alone it's always better to be bold, so both tell of the same turns.
        for n, k in [(1, 0), (4, 0), (5, 2), (7, 1), (9, 0), (9, 4)]:
            average = Fraction(0)
            for t in range(2 * n):
                zero, above, below = over(n, k, 0, t)
                average += 1 - Fraction(above, below)
            with self.subTest(n=n, k=k):
                self.assertEqual(ask((TABLE, n, k, 0), (ALONE,))[1], fraction_row(average))

    def test_lowest_terms(self):
        for n, k in ALL_PLACES:
            for t in (0, n, n + 1, n + 2):
                zero, above, below = over(n, k, 0, t)
                with self.subTest(n=n, k=k, t=t):
                    self.assertEqual(zero, 0)
                    self.assertEqual(math.gcd(above, below), 1)
                    self.assertTrue(0 <= above <= below)

    def test_behind_what_comes(self):
        rows = ask((TABLE, 3, 1, 9), (COMES, 2), (OVER, 11), (OVER, 12), (COMES, 5), (OVER, 11), (SHOWS,))
        self.assertEqual(rows[1:], [[2, 1, 10], [0, 0, 1], [0, 2, 3], [2, 1, 9], [0, 2, 3], [2, 1, 9]])

    def test_the_largest_c(self):
        rows = ask((TABLE, 9, 1, 9), *[(COMES, 2)] * 8, (OVER, 17), (OVER, 18), (COMES, 0), (OVER, 17))
        self.assertEqual(rows[8:], [[1, 1, 17], [0, 0, 1], [0, 1, 1], [0, 0, 17], [0, 1, 1]])


class Fewest(unittest.TestCase):
    def test_the_empty_table(self):
        self.assertEqual(ask((FEWEST,)), [[0, 0]])
        self.assertEqual(fewest(0, 0, 0), [0, 0])

    def test_c_alone(self):
        for c in range(10):
            self.assertEqual(fewest(0, 0, c), [c, c])

    def test_one_card_of_each_known(self):
        for n in range(10):
            for c in (0, 9):
                self.assertEqual(fewest(n, n, c), [n + c, n + c])

    def test_worked_by_hand(self):
        for n, k, few, many in [
            (1, 0, 1, 1), (2, 0, 2, 3), (2, 1, 2, 3), (3, 0, 3, 5), (3, 1, 3, 5), (3, 2, 3, 4),
        ]:
            for c in (0, 1, 9):
                with self.subTest(n=n, k=k, c=c):
                    self.assertEqual(fewest(n, k, c), [few + c, many + c])

    def test_n_9(self):
        self.assertEqual(fewest(9, 0, 0), [9, 17])
        self.assertEqual(fewest(9, 1, 0), [9, 17])
        self.assertEqual(fewest(9, 8, 0), [9, 10])
        self.assertEqual(fewest(9, 0, 9), [18, 26])

    def test_real_games(self):
        for n in range(1, 5):
            for k in range(n + 1):
                games = real_turns(n, k)
                with self.subTest(n=n, k=k):
                    self.assertEqual(fewest(n, k, 0), [min(games), max(games)])

    def test_every_table(self):
        for n, k, c in ALL_TABLES:
            with self.subTest(n=n, k=k, c=c):
                self.assertEqual(fewest(n, k, c), [n + c, most_by_hand(n, k) + c])

    def test_held_against_over(self):
        for n, k in ALL_PLACES:
            for c in (0, 1, 9):
                few, many = fewest(n, k, c)
                with self.subTest(n=n, k=k, c=c):
                    rows = ask((TABLE, n, k, c), (OVER, few), (OVER, many))
                    self.assertGreater(rows[1][1], 0)
                    self.assertEqual(rows[2], [0, 1, 1])
                    if few:
                        self.assertEqual(over(n, k, c, few - 1), [0, 0, 1])
                        self.assertNotEqual(over(n, k, c, many - 1), [0, 1, 1])

    def test_behind_what_comes(self):
        rows = ask((TABLE, 3, 1, 9), (COMES, 2), (FEWEST,), (COMES, 5), (FEWEST,), (SHOWS,))
        self.assertEqual(rows[1:], [[2, 1, 10], [12, 13], [2, 1, 9], [11, 12], [2, 1, 9]])

    def test_the_largest_c(self):
        rows = ask((TABLE, 9, 1, 9), *[(COMES, 2)] * 8, (FEWEST,), (COMES, 0), (FEWEST,))
        self.assertEqual(rows[8:], [[1, 1, 17], [18, 18], [0, 0, 17], [17, 17]])

    def test_behind_a_refusal(self):
        rows = ask((TABLE, 2, 1, 0), (OVER, 41), (COMES, 5), (FEWEST,))
        self.assertEqual(rows, [[4], [-1], [-2], [2, 3]])


if __name__ == "__main__":
    unittest.main()

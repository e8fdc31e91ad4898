"""Point 1, and shows."""

import unittest

from helper import ALL_TABLES, COMES, LARGEST, SHOWS, TABLE, ask


class TableThatIsLet(unittest.TestCase):
    def test_answers_how_many_cards_lie_there(self):
        self.assertEqual(ask((TABLE, 3, 1, 0)), [[6]])
        self.assertEqual(ask((TABLE, 3, 1, 2)), [[10]])
        self.assertEqual(ask((TABLE, 0, 0, 4)), [[8]])

    def test_edges(self):
        for n, k, c, cards in [
            (0, 0, 0, 0), (9, 0, 0, 18), (9, 9, 0, 18), (0, 0, 9, 18),
            (9, 0, 9, 36), (9, 9, 9, 36), (1, 1, 0, 2), (1, 0, 0, 2),
        ]:
            with self.subTest(n=n, k=k, c=c):
                self.assertEqual(ask((TABLE, n, k, c), (SHOWS,)), [[cards], [n, k, c]])

    def test_every_table_is_shown_as_it_was_told(self):
        for n, k, c in ALL_TABLES:
            with self.subTest(n=n, k=k, c=c):
                self.assertEqual(ask((TABLE, n, k, c), (SHOWS,)), [[2 * n + 2 * c], [n, k, c]])

    def test_a_second_table_takes_the_place_of_the_first(self):
        self.assertEqual(
            ask((TABLE, 5, 2, 1), (TABLE, 2, 0, 3), (SHOWS,)),
            [[12], [10], [2, 0, 3]],
        )

    def test_an_empty_table_behind_another(self):
        self.assertEqual(ask((TABLE, 5, 2, 1), (TABLE, 0, 0, 0), (SHOWS,)), [[12], [0], [0, 0, 0]])


class TableThatIsRefused(unittest.TestCase):
    def refused(self, n, k, c):
        with self.subTest(n=n, k=k, c=c):
            self.assertEqual(
                ask((SHOWS,), (TABLE, n, k, c), (SHOWS,)),
                [[0, 0, 0], [-1], [0, 0, 0]],
            )
            self.assertEqual(
                ask((TABLE, 4, 2, 3), (TABLE, n, k, c), (SHOWS,), (COMES, 3)),
                [[14], [-1], [4, 2, 3], [4, 4, 3]],
            )

    def test_n_above_9(self):
        for n in (10, 11, 100, LARGEST):
            self.refused(n, 0, 0)

    def test_k_above_n(self):
        for n, k in ((0, 1), (3, 4), (8, 9), (9, 10), (9, LARGEST), (0, LARGEST)):
            self.refused(n, k, 0)

    def test_c_above_9(self):
        for c in (10, 11, LARGEST):
            self.refused(3, 1, c)

    def test_several_at_once(self):
        self.refused(10, 11, 10)
        self.refused(LARGEST, LARGEST, LARGEST)


class Shows(unittest.TestCase):
    def test_ahead_of_any_table_it_is_empty(self):
        self.assertEqual(ask((SHOWS,)), [[0, 0, 0]])

    def test_changes_nothing(self):
        self.assertEqual(ask((TABLE, 6, 4, 2), (SHOWS,), (SHOWS,)), [[16], [6, 4, 2], [6, 4, 2]])


if __name__ == "__main__":
    unittest.main()

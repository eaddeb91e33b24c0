"""games: by hand, and against a plain search through all games."""

import itertools
import unittest

from tests.helper import BACK, BEST, GAMES, LEFT, RIGHT, SHOWS, ask, last, row, searched_games


class ByHand(unittest.TestCase):
    def assert_games(self, values, count):
        self.assertEqual(ask(row(*values), GAMES), [[len(values)], [count]], values)

    def test_one_coin(self):
        for value in (0, 1, 7, 1000):
            self.assert_games([value], 1)

    def test_two_coins(self):
        self.assert_games([3, 5], 1)
        self.assert_games([5, 3], 1)
        self.assert_games([4, 4], 2)

    def test_one_end_is_better(self):
        # By the left 5 - (3 - 2), by the right 2 - (5 - 3); then 3, then 2.
        self.assert_games([5, 3, 2], 1)
        # By the left 9 - 0, by the right 4 - 5; of the two like coins either may be next.
        self.assert_games([9, 4, 4], 2)
        self.assert_games([4, 4, 9], 2)
        # By the right alone, and then by either.
        self.assert_games([4, 9, 1, 5], 2)

    def test_both_ends_are_as_good(self):
        self.assert_games([5, 8, 2], 2)
        self.assert_games([1, 9, 1], 2)
        # By the left 1 - 0, by the right 2 - 1: two games behind the left one, one behind the right.
        self.assert_games([1, 2, 2], 3)
        self.assert_games([2, 2, 1], 3)
        # By either; then 3 at the other end alone; then either of the like coins.
        self.assert_games([3, 1, 1, 3], 4)

    def test_like_coins(self):
        for count in range(1, 17):
            for value in (0, 6, 1000):
                self.assert_games([value] * count, 2 ** (count - 1))

    def test_sixteen_like_coins(self):
        self.assert_games([1] * 16, 32768)

    def test_sixteen_coins(self):
        self.assert_games(range(1, 17), 1)
        self.assert_games(range(16, 0, -1), 1)
        # Whoever begins has one best end each time; the other one has two, seven times.
        self.assert_games([1000, 0] * 8, 128)


class InTheGame(unittest.TestCase):
    def test_from_now_on_alone(self):
        self.assertEqual(
            ask(row(6, 6, 6, 6), GAMES, LEFT, GAMES, RIGHT, GAMES, LEFT, GAMES, LEFT, GAMES)[1:],
            [[8], [6], [4], [6], [2], [6], [1], [6], [1]],
        )

    def test_after_an_end_that_was_not_best(self):
        self.assertEqual(ask(row(1, 1, 2), GAMES, LEFT, GAMES, BACK, RIGHT, GAMES)[1:], [[2], [1], [1], [1], [2], [2]])

    def test_where_no_coin_lies_there(self):
        self.assertEqual(ask(LEFT, GAMES, SHOWS, BACK), [[1], [1], [0, 1, 0, 2], [1]])
        self.assertEqual(ask(row(5, 5), LEFT, LEFT, GAMES)[3:], [[1]])

    def test_changes_nothing(self):
        told = ask(row(5, 5, 8, 5), RIGHT, SHOWS, BEST, GAMES, GAMES, SHOWS, BEST, BACK, BACK)
        self.assertEqual(told[2:4], told[6:8])
        self.assertEqual(told[4], told[5])
        self.assertEqual(told[8:], [[5], [-9]])


class AgainstSearch(unittest.TestCase):
    def assert_as_searched(self, values):
        games = searched_games(list(values))
        self.assertEqual(len(games), len(set(games)))
        self.assertEqual(last(row(*values), GAMES), [len(games)], values)

    def test_all_small_rows(self):
        for count in range(1, 6):
            for values in itertools.product((0, 1, 2, 5), repeat=count):
                self.assert_as_searched(values)

    def test_rows_of_two_values(self):
        for count in range(6, 9):
            for values in itertools.product((1, 3), repeat=count):
                self.assert_as_searched(values)

    def test_sixteen_coins(self):
        self.assert_as_searched((1000, 0, 3, 999, 12, 500, 501, 7, 7, 86, 350, 1, 0, 640, 33, 999))
        self.assert_as_searched((1, 1, 2, 1, 1, 2, 1, 1, 2, 1, 1, 2, 1, 1, 2, 1))
        self.assert_as_searched((4, 4, 4, 4, 4, 4, 4, 4, 4, 4, 4, 4, 4, 4, 4, 5))


if __name__ == "__main__":
    unittest.main()

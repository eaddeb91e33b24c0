"""greedy and beat: by hand, and against everything that can be taken."""

import itertools
import unittest

from tests.helper import (
    BACK, BEAT, GETS, GREEDY, LEFT, PLAY, RIGHT, SHOWS, ask, greedy_shares, last, row, searched_beat, take,
)


class ByHand(unittest.TestCase):
    def assert_answers(self, values, greedy, beat):
        self.assertEqual(ask(row(*values), GREEDY, BEAT)[1:], [greedy, beat], values)

    def test_one_coin(self):
        for value in (0, 7, 1000):
            self.assert_answers([value], [value, 0], [value, 0])

    def test_two_coins(self):
        self.assert_answers([3, 5], [5, 3], [5, 1])
        self.assert_answers([5, 3], [5, 3], [5, 0])
        self.assert_answers([4, 4], [4, 4], [4, 0])

    def test_three_coins(self):
        # Greedy: 5, 8, 2. By the left 5 and 2, by the right 2 and 5.
        self.assert_answers([5, 8, 2], [7, 8], [7, 0])
        # Greedy: 9, 2, 1. By the right 9 and 1, by the left 1 and 2.
        self.assert_answers([1, 2, 9], [10, 2], [10, 1])

    def test_four_coins(self):
        # Greedy: 5, 4, 9, 1. By the right 5, then 4 goes, then 9.
        self.assert_answers([4, 9, 1, 5], [14, 5], [14, 1])
        # Greedy: 4, 9, 7, 3. By the left 3, then 7 goes, then 9; by the right 4, then 9 goes, then 7.
        self.assert_answers([3, 7, 9, 4], [11, 12], [12, 0])

    def test_like_end_coins(self):
        # Greedy takes the left 3, then 9, 3, 1. By the right 3, then the other takes 3, then 9.
        self.assert_answers([3, 9, 1, 3], [6, 10], [12, 1])
        # Greedy: 3, 3, 9, 1. By the left 3, then 3 goes, then 9.
        self.assert_answers([3, 1, 9, 3], [12, 4], [12, 0])

    def test_like_end_coins_before_the_greedy_one(self):
        # By the left 5; of 3, 9, 1, 3 the greedy one takes the left 3; then 9, and 1 at last.
        self.assert_answers([5, 3, 9, 1, 3], [15, 6], [15, 0])
        # By the left 5; of 3, 1, 9, 3 the greedy one takes the left 3; of 1, 9, 3 then 1 and 3, or 3 and 1.
        self.assert_answers([5, 3, 1, 9, 3], [9, 12], [9, 0])

    def test_more_than_against_a_good_one(self):
        self.assertEqual(ask(row(5, 3, 9, 1, 3), GETS, BEAT)[1:], [[9, 12], [15, 0]])

    def test_like_coins(self):
        for count in range(1, 17):
            half = count // 2
            for value in (0, 6, 1000):
                share = value * (count - half)
                self.assert_answers([value] * count, [share, value * half], [share, 0])

    def test_both_beginnings_are_as_good(self):
        for values in ([8, 8], [2, 5, 2], [3, 1, 1, 3], [5, 8, 2], [2, 8, 5], [0, 1000, 0], [1000] * 16):
            self.assertEqual(last(row(*values), BEAT)[1], 0)

    def test_sixteen_coins(self):
        self.assert_answers(range(1, 17), [72, 64], [72, 1])
        self.assert_answers(range(16, 0, -1), [72, 64], [72, 0])
        self.assert_answers([1000, 0] * 8, [8000, 0], [8000, 0])
        self.assert_answers([0, 1000] * 8, [8000, 0], [8000, 1])


class InTheGame(unittest.TestCase):
    def test_from_now_on_alone(self):
        self.assertEqual(ask(row(1000, 3, 5), LEFT, GREEDY, BEAT)[2:], [[5, 3], [5, 1]])
        self.assertEqual(ask(row(3, 9, 1, 3, 1000), RIGHT, GREEDY, BEAT)[2:], [[6, 10], [12, 1]])

    def test_after_take_play_and_back(self):
        self.assertEqual(
            ask(row(3, 7, 9, 4), PLAY, GREEDY, BEAT, RIGHT, GREEDY, BEAT, BACK, BACK, GREEDY, BEAT)[1:],
            # Of 7, 9, 4 greedy takes 7, 9, 4; of 7, 9 it takes 9.
            [[3], [11, 9], [11, 0], [4], [9, 7], [9, 1], [4], [3], [11, 12], [12, 0]],
        )

    def test_change_nothing(self):
        for call in (GREEDY, BEAT):
            told = ask(row(5, 8, 2, 9), RIGHT, SHOWS, call, call, SHOWS, BACK, BACK)
            self.assertEqual(told[3], told[4])
            self.assertEqual(told[2], told[5])
            self.assertEqual(told[6:], [[9], [-9]])

    def test_where_no_coin_lies_there(self):
        for count in (1, 2, 3, 16):
            values = list(range(10, 10 + count))
            told = ask(row(*values), *[LEFT] * count, SHOWS, GREEDY, BEAT, SHOWS, BACK)[count + 1:]
            shown = [0, sum(values[0::2]), sum(values[1::2]), 1 + count % 2]
            self.assertEqual(told, [shown, [0, 0], [-6], shown, [values[-1]]])

    def test_after_the_coin_of_a_new_object(self):
        self.assertEqual(ask(RIGHT, BEAT, GREEDY, SHOWS), [[1], [-6], [0, 0], [0, 1, 0, 2]])

    def test_beating_the_greedy_one_to_the_end(self):
        for values in (range(1, 17), [3, 9, 1, 3] * 4, [n * n * 389 % 1001 for n in range(1, 16)], [5, 3, 9, 1, 3]):
            coins = list(values)
            calls = [row(*coins)]
            most = last(*calls, BEAT)[0]
            for turn in range(len(coins)):
                if turn % 2 == 0:
                    calls.append(take(last(*calls, BEAT)[1]))
                else:
                    lying = last(*calls, SHOWS)[1:-3]
                    calls.append(LEFT if lying[0] >= lying[-1] else RIGHT)
            self.assertEqual(last(*calls, SHOWS)[1], most)


class AgainstSearch(unittest.TestCase):
    def assert_as_searched(self, values):
        coins = list(values)
        self.assertEqual(ask(row(*coins), GREEDY, BEAT)[1:], [greedy_shares(coins), searched_beat(coins)], coins)

    def test_all_small_rows(self):
        for count in range(1, 6):
            for values in itertools.product((0, 1, 2, 5), repeat=count):
                self.assert_as_searched(values)

    def test_rows_of_two_values(self):
        for count in range(6, 11):
            for values in itertools.product((1, 3), repeat=count):
                self.assert_as_searched(values)

    def test_all_orders_of_six(self):
        for values in itertools.permutations((0, 1, 3, 3, 10, 30)):
            self.assert_as_searched(values)

    def test_great_rows(self):
        for count in range(11, 17):
            for step in (37, 389, 617):
                for most in (3, 20, 1001):
                    self.assert_as_searched([step * place * place % most for place in range(1, count + 1)])


if __name__ == "__main__":
    unittest.main()

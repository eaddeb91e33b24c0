"""lead, best and gets: by hand, and against a plain search through all games."""

import itertools
import unittest

from tests.helper import (
    BACK, BEST, GETS, LEAD, LEFT, RIGHT, SHOWS,
    ask, last, row, searched_best, searched_gets, searched_lead, told_lead,
)

SIXTEEN = (
    (1000, 0, 3, 999, 12, 500, 501, 7, 7, 86, 350, 1, 0, 640, 33, 999),
    (1, 2, 3, 4, 5, 6, 7, 8, 9, 10, 11, 12, 13, 14, 15, 16),
    (0, 1000, 0, 1000, 0, 1000, 0, 1000, 1000, 0, 1000, 0, 1000, 0, 1000, 0),
)


class ByHand(unittest.TestCase):
    def assert_answers(self, values, lead, best, gets):
        self.assertEqual(ask(row(*values), LEAD, BEST, GETS)[1:], [lead, best, gets], values)

    def test_one_coin(self):
        self.assert_answers([7], [1, 7], [0, 0, 0], [7, 0])
        self.assert_answers([0], [0, 0], [0, 0, 0], [0, 0])
        self.assert_answers([1000], [1, 1000], [0, 0, 0], [1000, 0])

    def test_two_coins(self):
        self.assert_answers([3, 5], [1, 2], [1, 1, 3], [5, 3])
        self.assert_answers([5, 3], [1, 2], [0, 1, 3], [5, 3])
        self.assert_answers([4, 4], [0, 0], [0, 1, 4], [4, 4])

    def test_a_lead_below_nothing(self):
        # Whichever end is taken, the great coin in the middle goes to the other one.
        self.assert_answers([1, 9, 1], [2, 7], [0, 1, 8], [2, 9])
        self.assert_answers([1, 9, 2], [2, 6], [0, 1, 7], [3, 9])
        self.assert_answers([0, 1000, 0], [2, 1000], [0, 1, 1000], [0, 1000])

    def test_three_coins(self):
        # By the left 5 - (8 - 2), by the right 2 - (8 - 5): both -1, so the left one.
        self.assert_answers([5, 8, 2], [2, 1], [0, 1, 6], [7, 8])
        # By the left 5 - (3 - 2), by the right 2 - (5 - 3).
        self.assert_answers([5, 3, 2], [1, 4], [0, 1, 1], [7, 3])
        # By the left 1 - (9 - 2), by the right 9 - (2 - 1).
        self.assert_answers([1, 2, 9], [1, 8], [1, 1, 1], [10, 2])

    def test_the_greater_coin_is_not_always_best(self):
        # By the left 4 - lead(9, 1, 5) = 4 - 5, by the right 5 - lead(4, 9, 1) = 5 + 4.
        self.assert_answers([4, 9, 1, 5], [1, 9], [1, 2, 4], [14, 5])
        # By the left 3 - lead(7, 9, 4) = 3 - 2, by the right 4 - lead(3, 7, 9) = 4 - 5.
        self.assert_answers([3, 7, 9, 4], [1, 1], [0, 1, 2], [12, 11])

    def test_the_lead_of_the_other_is_nothing(self):
        self.assert_answers([9, 4, 4], [1, 9], [0, 0, 0], [13, 4])
        self.assert_answers([4, 4, 9], [1, 9], [1, 0, 0], [13, 4])

    def test_like_coins(self):
        for count in range(1, 17):
            over = 6 * (count % 2)
            half = 6 * (count // 2)
            self.assert_answers([6] * count, [count % 2, over], [0, 1 - count % 2, 6 - over], [half + over, half])

    def test_coins_of_no_value(self):
        for count in range(1, 17):
            self.assert_answers([0] * count, [0, 0], [0, 0, 0], [0, 0])

    def test_sixteen_coins_in_rising_order(self):
        # Both always take the greatest: 16, 14 .. 2 and 15, 13 .. 1.
        self.assert_answers(range(1, 17), [1, 8], [1, 1, 8], [72, 64])
        self.assert_answers(range(16, 0, -1), [1, 8], [0, 1, 8], [72, 64])

    def test_where_both_ends_are_as_good(self):
        for values in ([8, 8], [2, 5, 2], [3, 1, 1, 3], [1000] * 16, [5, 8, 2]):
            self.assertEqual(last(row(*values), BEST)[0], 0)

    def test_greatest_shares(self):
        self.assert_answers([1000] * 15, [1, 1000], [0, 0, 0], [8000, 7000])
        self.assert_answers([1000, 0] * 8, [1, 8000], [0, 2, 7000], [8000, 0])
        self.assert_answers([0, 1000] * 7 + [0], [2, 7000], [0, 1, 7000], [0, 7000])


class InTheGame(unittest.TestCase):
    def test_from_now_on_alone(self):
        # The thousand that has been taken counts no more; the other one is at turn.
        self.assertEqual(ask(row(1000, 3, 5), LEFT, LEAD, BEST, GETS)[2:], [[1, 2], [1, 1, 3], [5, 3]])
        self.assertEqual(ask(row(1000, 1, 9, 1), LEFT, LEAD, BEST, GETS)[2:], [[2, 7], [0, 1, 8], [2, 9]])

    def test_after_several_take_and_back(self):
        self.assertEqual(
            # At last 1, 9, 2, 7 lie there: by the left 1 - 4, by the right 7 + 6.
            ask(row(7, 1, 9, 2, 7), LEFT, RIGHT, LEAD, RIGHT, LEAD, BACK, BACK, LEAD, BEST, GETS)[3:],
            [[2, 6], [2], [1, 8], [2], [7], [1, 13], [1, 2, 6], [16, 3]],
        )

    def test_change_nothing(self):
        for call in (LEAD, BEST, GETS):
            told = ask(row(5, 8, 2, 9), RIGHT, SHOWS, call, call, SHOWS, BACK, BACK)
            self.assertEqual(told[3], told[4])
            self.assertEqual(told[2], told[5])
            self.assertEqual(told[6:], [[9], [-9]])

    def test_where_no_coin_lies_there(self):
        for count in (1, 2, 3, 16):
            values = list(range(10, 10 + count))
            told = ask(row(*values), *[LEFT] * count, SHOWS, LEAD, GETS, BEST, SHOWS, BACK)[count + 1:]
            shown = [0, sum(values[0::2]), sum(values[1::2]), 1 + count % 2]
            self.assertEqual(told, [shown, [0, 0], [0, 0], [-6], shown, [values[-1]]])

    def test_best_refused_after_the_coin_of_a_new_object(self):
        self.assertEqual(ask(RIGHT, BEST, LEAD, GETS, SHOWS), [[1], [-6], [0, 0], [0, 0], [0, 1, 0, 2]])

    def test_taking_best_leads_to_what_gets_told(self):
        for values in SIXTEEN:
            calls = [row(*values)]
            begin_gets = last(*calls, GETS)
            for turn in range(len(values)):
                calls.append([1, last(*calls, BEST)[0]])
            self.assertEqual(last(*calls, SHOWS), [0, *begin_gets, 1])


class AgainstSearch(unittest.TestCase):
    def assert_as_searched(self, values):
        coins = list(values)
        self.assertEqual(
            ask(row(*coins), LEAD, BEST, GETS)[1:],
            [told_lead(searched_lead(coins)), searched_best(coins), searched_gets(coins)],
            coins,
        )

    def test_all_small_rows(self):
        for count in range(1, 6):
            for values in itertools.product((0, 1, 2, 5), repeat=count):
                self.assert_as_searched(values)

    def test_all_orders_of_six(self):
        for values in itertools.permutations((0, 1, 3, 4, 10, 30)):
            self.assert_as_searched(values)

    def test_middling_rows(self):
        for count in range(6, 12):
            for step in (37, 389, 617):
                self.assert_as_searched([step * place * place % 1001 for place in range(1, count + 1)])

    def test_sixteen_coins(self):
        for values in SIXTEEN:
            self.assert_as_searched(values)


class EvenRows(unittest.TestCase):
    def test_whoever_begins_never_loses(self):
        for count in range(2, 17, 2):
            for step in range(1, 60):
                values = [step * place * place * place % 1001 for place in range(1, count + 1)]
                sign, size = last(row(*values), LEAD)
                self.assertIn(sign, (0, 1))
                # All coins at odd places, or all at even ones, can always be taken.
                self.assertGreaterEqual(size, abs(sum(values[0::2]) - sum(values[1::2])))


if __name__ == "__main__":
    unittest.main()

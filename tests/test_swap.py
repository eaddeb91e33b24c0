"""swap: the lead if two coins had changed places; nothing is changed."""

import itertools
import unittest

from tests.helper import (
    BACK, BEAT, BEST, GAMES, GETS, GREEDY, LEAD, LEFT, PLACES, PLAY, RIGHT, SHOWS, ask, last, row, searched_swap, swap,
)

GREATEST = 4294967295


class ByHand(unittest.TestCase):
    def test_one_coin(self):
        self.assertEqual(ask(row(7), swap(1, 1))[1:], [[1, 7]])
        self.assertEqual(ask(row(0), swap(1, 1))[1:], [[0, 0]])

    def test_three_coins(self):
        # 8, 5, 2: by the left 8 - 3. 5, 2, 8: by the right 8 - 3. 2, 8, 5: by the left 2 - 3.
        self.assertEqual(ask(row(5, 8, 2), swap(1, 2), swap(2, 3), swap(1, 3))[1:], [[1, 5], [1, 5], [2, 1]])

    def test_i_above_j(self):
        self.assertEqual(ask(row(5, 8, 2), swap(2, 1), swap(3, 2), swap(3, 1))[1:], [[1, 5], [1, 5], [2, 1]])

    def test_a_place_with_itself(self):
        for values in ((5, 8, 2), (4, 9, 1, 5), (6, 6), tuple(range(1, 17))):
            lead = last(row(*values), LEAD)
            for place in range(1, len(values) + 1):
                self.assertEqual(last(row(*values), swap(place, place)), lead)

    def test_both_ends(self):
        # 5, 9, 1, 4: by the left 5 - 6, by the right 4 + 3.
        self.assertEqual(ask(row(4, 9, 1, 5), LEAD, swap(1, 4), swap(4, 1))[1:], [[1, 9], [1, 7], [1, 7]])

    def test_two_in_the_middle(self):
        # 4, 1, 9, 5: by the left 4 - lead(1, 9, 5) = 4 + 3, by the right 5 - lead(4, 1, 9) = 5 - 6.
        self.assertEqual(ask(row(4, 9, 1, 5), swap(2, 3), swap(3, 2))[1:], [[1, 7], [1, 7]])

    def test_a_lead_of_nothing(self):
        # 3, 1, 1, 3: by the left 3 - lead(1, 1, 3) = 3 - 3.
        self.assertEqual(ask(row(1, 3, 1, 3), swap(1, 2))[1:], [[0, 0]])

    def test_like_coins(self):
        for count in range(1, 17):
            over = count % 2
            for i, j in ((1, count), (count, 1), (1, 1), ((count + 1) // 2, count)):
                self.assertEqual(last(row(*[6] * count), swap(i, j)), [over, 6 * over])
                self.assertEqual(last(row(*[0] * count), swap(i, j)), [0, 0])


class InTheGame(unittest.TestCase):
    def test_changes_nothing(self):
        told = ask(row(5, 8, 2, 9), RIGHT, SHOWS, LEAD, BEST, GETS, GAMES, PLACES, GREEDY, BEAT,
                   swap(1, 3), swap(1, 3), swap(2, 1),
                   SHOWS, LEAD, BEST, GETS, GAMES, PLACES, GREEDY, BEAT, BACK, BACK, SHOWS)
        self.assertEqual(told[2:10], told[13:21])
        self.assertEqual(told[10], told[11])
        self.assertEqual(told[21:], [[9], [-9], [4, 5, 8, 2, 9, 0, 0, 1]])

    def test_of_the_coins_that_lie_there_now(self):
        self.assertEqual(
            # 1, 9, 2, 7 lie there. 7, 9, 2, 1: by the left 7 - 8, by the right 1 - 0.
            ask(row(7, 1, 9, 2, 7), swap(5, 1), LEFT, swap(1, 4), swap(5, 1), swap(1, 5), RIGHT, swap(1, 4), BACK,
                swap(4, 1), BACK, swap(1, 5), swap(6, 1))[3:],
            [[1, 1], [-2], [-2], [7], [-2], [7], [1, 1], [7], last(row(7, 1, 9, 2, 7), LEAD), [-2]],
        )

    def test_after_play(self):
        self.assertEqual(
            # 4, 9, 1 lie there, then 9, 1. 9, 4, 1: by the left 9 - 3. 4, 1, 9: by the right 9 - 3.
            ask(row(4, 9, 1, 5), PLAY, swap(1, 2), swap(2, 3), swap(4, 1), PLAY, swap(1, 2), swap(3, 1), BACK,
                swap(3, 1))[1:],
            [[5], [1, 6], [1, 6], [-2], [4], [1, 8], [-2], [4], [2, 4]],
        )


class Refused(unittest.TestCase):
    def assert_refused(self, before, i, j):
        told = ask(*before, SHOWS, LEAD, swap(i, j), SHOWS, LEAD, BACK)[len(before):]
        self.assertEqual(told[2], [-2], (i, j))
        self.assertEqual(told[:2], told[3:5])
        self.assertEqual(told[5], ask(*before, BACK)[-1])

    def test_no_such_place(self):
        for count in (1, 2, 3, 15, 16):
            for wrong in (0, count + 1, count + 2, 40, 65536, GREATEST - 1, GREATEST):
                for right in (1, count):
                    self.assert_refused([row(*range(5, 5 + count))], wrong, right)
                    self.assert_refused([row(*range(5, 5 + count))], right, wrong)
                self.assert_refused([row(*range(5, 5 + count))], wrong, wrong)

    def test_both_wrong(self):
        for i, j in ((0, 4), (4, 0), (0, GREATEST), (GREATEST, 4)):
            self.assert_refused([row(5, 8, 2)], i, j)

    def test_places_of_coins_that_were_taken(self):
        self.assert_refused([row(5, 8, 2), LEFT], 1, 3)
        self.assert_refused([row(5, 8, 2), LEFT], 3, 1)
        self.assert_refused([row(5, 8, 2), RIGHT], 3, 3)
        self.assert_refused([row(5, 8, 2), PLAY, PLAY], 2, 1)

    def test_where_no_coin_lies_there(self):
        for i, j in ((1, 1), (0, 0), (1, 2), (0, 1), (1, 0), (GREATEST, GREATEST)):
            self.assert_refused([LEFT], i, j)
            self.assert_refused([row(5, 8), LEFT, LEFT], i, j)

    def test_on_a_new_object(self):
        for i, j in ((0, 1), (1, 0), (0, 0), (1, 2), (2, 1), (2, 2), (1, GREATEST), (GREATEST, 1)):
            self.assert_refused([], i, j)

    def test_places_of_a_refused_swap_are_not_calls(self):
        self.assertEqual(ask(swap(0, 0), swap(3, 3), swap(8, 8), SHOWS), [[-2], [-2], [-2], [1, 1, 0, 0, 1]])


class AgainstSearch(unittest.TestCase):
    def assert_as_searched(self, values):
        places = range(len(values) + 2)
        for i, j in itertools.product(places, places):
            self.assertEqual(last(row(*values), swap(i, j)), searched_swap(list(values), i, j), (values, i, j))

    def test_all_small_rows(self):
        for count in range(1, 5):
            for values in itertools.product((0, 1, 5), repeat=count):
                self.assert_as_searched(values)

    def test_middling_rows(self):
        for count in range(5, 9):
            for step in (37, 389):
                self.assert_as_searched([step * place * place % 1001 for place in range(1, count + 1)])

    def test_sixteen_coins(self):
        values = [1000, 0, 3, 999, 12, 500, 501, 7, 7, 86, 350, 1, 0, 640, 33, 999]
        for i, j in ((1, 16), (16, 2), (8, 9), (4, 13), (12, 3)):
            self.assertEqual(last(row(*values), swap(i, j)), searched_swap(values, i, j))


if __name__ == "__main__":
    unittest.main()

"""places: what lies at odd places and at even ones, of the coins that lie there now."""

import unittest

from tests.helper import BACK, LEFT, PLACES, PLAY, RIGHT, SHOWS, ask, last, row


class Places(unittest.TestCase):
    def test_one_coin(self):
        for value in (0, 7, 1000):
            self.assertEqual(last(row(value), PLACES), [value, 0])

    def test_an_even_number(self):
        self.assertEqual(last(row(3, 5), PLACES), [3, 5])
        self.assertEqual(last(row(1, 20, 300, 4), PLACES), [301, 24])
        self.assertEqual(last(row(*[1000, 0] * 8), PLACES), [8000, 0])
        self.assertEqual(last(row(*range(1, 17)), PLACES), [64, 72])

    def test_an_odd_number(self):
        self.assertEqual(last(row(5, 8, 2), PLACES), [7, 8])
        self.assertEqual(last(row(1, 20, 300, 4, 50), PLACES), [351, 24])
        self.assertEqual(last(row(*[0, 1000] * 7, 0), PLACES), [0, 7000])

    def test_like_coins(self):
        for count in range(1, 17):
            self.assertEqual(last(row(*[6] * count), PLACES), [6 * (count - count // 2), 6 * (count // 2)])
            self.assertEqual(last(row(*[0] * count), PLACES), [0, 0])

    def test_of_those_that_lie_there_now(self):
        self.assertEqual(
            # Behind the left one that was taken, places are told anew: 20, 300, 4, 50.
            ask(row(1, 20, 300, 4, 50), LEFT, PLACES, RIGHT, PLACES, LEFT, PLACES, BACK, BACK, PLACES, BACK, PLACES)[1:],
            [[1], [24, 350], [50], [24, 300], [20], [300, 4],
             [20], [50], [24, 350], [1], [351, 24]],
        )

    def test_after_play(self):
        self.assertEqual(ask(row(4, 9, 1, 5), PLAY, PLACES, PLAY, PLACES, BACK, PLACES)[1:],
                         [[5], [5, 9], [4], [9, 1], [4], [5, 9]])

    def test_where_no_coin_lies_there(self):
        self.assertEqual(ask(LEFT, PLACES, SHOWS, BACK), [[1], [0, 0], [0, 1, 0, 2], [1]])
        self.assertEqual(ask(row(5, 8), LEFT, LEFT, PLACES)[3:], [[0, 0]])

    def test_changes_nothing(self):
        told = ask(row(5, 8, 2, 9), RIGHT, SHOWS, PLACES, PLACES, SHOWS, BACK, BACK)
        self.assertEqual(told[2], told[5])
        self.assertEqual(told[3], told[4])
        self.assertEqual(told[6:], [[9], [-9]])


if __name__ == "__main__":
    unittest.main()

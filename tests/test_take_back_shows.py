"""take, back and shows."""

import unittest

from tests.helper import BACK, BEST, LEAD, LEFT, RIGHT, SHOWS, ask, last, row, take

WRONG_ENDS = (2, 3, 6, 1000, 4294967294, 4294967295)


class Take(unittest.TestCase):
    def test_the_left_and_the_right_end(self):
        self.assertEqual(ask(row(5, 8, 2), LEFT, SHOWS), [[3], [5], [2, 8, 2, 5, 0, 2]])
        self.assertEqual(ask(row(5, 8, 2), RIGHT, SHOWS), [[3], [2], [2, 5, 8, 2, 0, 2]])

    def test_both_take_in_turns(self):
        self.assertEqual(
            ask(row(1, 20, 300, 4, 50), LEFT, SHOWS, RIGHT, SHOWS, RIGHT, SHOWS, LEFT, SHOWS, LEFT, SHOWS)[1:],
            [
                [1], [4, 20, 300, 4, 50, 1, 0, 2],
                [50], [3, 20, 300, 4, 1, 50, 1],
                [4], [2, 20, 300, 5, 50, 2],
                [20], [1, 300, 5, 70, 1],
                [300], [0, 305, 70, 2],
            ],
        )

    def test_a_coin_of_no_value_counts_as_a_turn(self):
        self.assertEqual(ask(row(0, 0, 7), LEFT, SHOWS, LEFT, SHOWS)[1:],
                         [[0], [2, 0, 7, 0, 0, 2], [0], [1, 7, 0, 0, 1]])

    def test_sixteen_coins(self):
        values = list(range(1, 17))
        taken = ask(row(*values), *[LEFT, RIGHT] * 8, SHOWS)[1:]
        self.assertEqual(taken[:-1], [[1], [16], [2], [15], [3], [14], [4], [13],
                                      [5], [12], [6], [11], [7], [10], [8], [9]])
        self.assertEqual(taken[-1], [0, 36, 100, 1])

    def test_wrong_end(self):
        for end in WRONG_ENDS:
            self.assertEqual(
                ask(row(5, 8, 2), RIGHT, take(end), SHOWS, BACK, SHOWS)[2:],
                [[-1], [2, 5, 8, 2, 0, 2], [2], [3, 5, 8, 2, 0, 0, 1]],
            )

    def test_wrong_end_on_a_new_object(self):
        for end in WRONG_ENDS:
            self.assertEqual(ask(take(end), SHOWS, BACK), [[-1], [1, 1, 0, 0, 1], [-9]])

    def test_no_coin(self):
        for end in (LEFT, RIGHT):
            self.assertEqual(
                ask(row(5, 8), LEFT, RIGHT, end, SHOWS, BACK, BACK, SHOWS)[3:],
                [[-6], [0, 5, 8, 1], [8], [5], [2, 5, 8, 0, 0, 1]],
            )

    def test_wrong_end_where_no_coin_lies_there(self):
        for end in WRONG_ENDS:
            self.assertEqual(
                ask(row(5, 8), LEFT, RIGHT, take(end), SHOWS, BACK)[3:],
                [[-1], [0, 5, 8, 1], [8]],
            )


class Back(unittest.TestCase):
    def test_to_the_end_it_was_taken_from(self):
        for end, coin in ((LEFT, 5), (RIGHT, 2)):
            self.assertEqual(ask(row(5, 8, 2), end, BACK, SHOWS)[1:], [[coin], [coin], [3, 5, 8, 2, 0, 0, 1]])

    def test_the_last_one_first(self):
        self.assertEqual(
            ask(row(5, 8, 2, 9), LEFT, RIGHT, LEFT, BACK, SHOWS, BACK, SHOWS, BACK, SHOWS, BACK)[4:],
            [
                [8], [2, 8, 2, 5, 9, 1],
                [9], [3, 8, 2, 9, 5, 0, 2],
                [5], [4, 5, 8, 2, 9, 0, 0, 1],
                [-9],
            ],
        )

    def test_after_the_last_coin(self):
        self.assertEqual(
            ask(row(5, 8, 2), LEFT, LEFT, RIGHT, SHOWS, BACK, SHOWS, LEFT, BACK, BACK, SHOWS)[4:],
            [[0, 7, 8, 2], [2], [1, 2, 5, 8, 1], [2], [2], [8], [2, 8, 2, 5, 0, 2]],
        )

    def test_another_end_after_back(self):
        self.assertEqual(ask(row(5, 8, 2), LEFT, BACK, RIGHT, LEFT, BACK, BACK, SHOWS)[1:],
                         [[5], [5], [2], [5], [5], [2], [3, 5, 8, 2, 0, 0, 1]])

    def test_the_lead_is_as_before(self):
        before = ask(row(3, 9, 1, 7), LEAD, BEST)[1:]
        self.assertEqual(ask(row(3, 9, 1, 7), RIGHT, LEFT, BACK, BACK, LEAD, BEST)[5:], before)

    def test_sixteen_coins(self):
        values = list(range(1, 17))
        told = ask(row(*values), *[RIGHT, LEFT] * 8, *[BACK] * 16, SHOWS, BACK)
        self.assertEqual(told[17:33], told[16:0:-1])
        self.assertEqual(told[33:], [[16, *values, 0, 0, 1], [-9]])

    def test_nothing_taken(self):
        self.assertEqual(ask(row(5, 8, 2), BACK, SHOWS, BACK, LEFT)[1:], [[-9], [3, 5, 8, 2, 0, 0, 1], [-9], [5]])


class Shows(unittest.TestCase):
    def test_changes_nothing(self):
        told = ask(row(5, 8, 2), LEFT, SHOWS, SHOWS, BACK, SHOWS)
        self.assertEqual(told[2], told[3])
        self.assertEqual(told[4:], [[5], [3, 5, 8, 2, 0, 0, 1]])

    def test_where_no_coin_lies_there(self):
        self.assertEqual(last(row(9), LEFT, SHOWS), [0, 9, 0, 2])
        self.assertEqual(last(row(9, 4), LEFT, LEFT, SHOWS), [0, 9, 4, 1])


if __name__ == "__main__":
    unittest.main()

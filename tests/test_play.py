"""play: the one at turn takes what best tells."""

import unittest

from tests.helper import BACK, BEST, GAMES, GETS, LEAD, LEFT, PLAY, RIGHT, SHOWS, ask, last, row, take

ROWS = (
    (7,), (0,), (3, 5), (5, 3), (4, 4), (5, 8, 2), (1, 9, 1), (1, 2, 9), (3, 7, 9, 4), (4, 9, 1, 5), (0, 0, 0, 0),
    (1, 2, 2), (2, 2, 1), (6, 6, 6, 6, 6), tuple(range(1, 17)), (1000,) * 16,
    (1000, 0, 3, 999, 12, 500, 501, 7, 7, 86, 350, 1, 0, 640, 33, 999),
)


class ByHand(unittest.TestCase):
    def test_one_coin(self):
        self.assertEqual(ask(row(7), PLAY, SHOWS), [[1], [7], [0, 7, 0, 2]])

    def test_the_better_end(self):
        self.assertEqual(ask(row(3, 5), PLAY, SHOWS)[1:], [[5], [1, 3, 5, 0, 2]])
        self.assertEqual(ask(row(5, 3), PLAY, SHOWS)[1:], [[5], [1, 3, 5, 0, 2]])

    def test_the_greater_coin_is_not_always_best(self):
        # By the left 3 - lead(7, 9, 4) = 3 - 2, by the right 4 - lead(3, 7, 9) = 4 - 5.
        self.assertEqual(ask(row(3, 7, 9, 4), PLAY, SHOWS)[1:], [[3], [3, 7, 9, 4, 3, 0, 2]])

    def test_the_left_one_where_both_are_as_good(self):
        self.assertEqual(ask(row(5, 8, 2), PLAY, SHOWS)[1:], [[5], [2, 8, 2, 5, 0, 2]])
        # By the left 2 - (8 - 5), by the right 5 - (8 - 2).
        self.assertEqual(ask(row(2, 8, 5), PLAY, SHOWS)[1:], [[2], [2, 8, 5, 2, 0, 2]])
        self.assertEqual(ask(row(4, 1, 4), PLAY, BACK, SHOWS)[1:], [[4], [4], [3, 4, 1, 4, 0, 0, 1]])

    def test_a_whole_game(self):
        self.assertEqual(
            ask(row(4, 9, 1, 5), PLAY, SHOWS, PLAY, SHOWS, PLAY, SHOWS, PLAY, SHOWS)[1:],
            [
                [5], [3, 4, 9, 1, 5, 0, 2],
                [4], [2, 9, 1, 5, 4, 1],
                [9], [1, 1, 14, 4, 2],
                [1], [0, 14, 5, 1],
            ],
        )

    def test_beside_take(self):
        self.assertEqual(
            ask(row(1, 2, 9, 3), LEFT, PLAY, RIGHT, PLAY, SHOWS)[1:],
            # Of 2, 9, 3 both ends are as good: by the left 2 - 6, by the right 3 - 7.
            [[1], [2], [3], [9], [0, 4, 11, 1]],
        )


class PutBack(unittest.TestCase):
    def test_to_the_end_it_was_taken_from(self):
        for values in ((3, 5), (5, 3), (1, 2, 9), (9, 2, 1)):
            told = ask(row(*values), SHOWS, PLAY, BACK, SHOWS, BACK)
            self.assertEqual(told[2], told[3])
            self.assertEqual(told[4:], [told[1], [-9]])

    def test_a_whole_game(self):
        for values in ROWS:
            count = len(values)
            told = ask(row(*values), *[PLAY] * count, *[BACK] * count, SHOWS, BACK)[1:]
            self.assertEqual(told[count:2 * count], told[:count][::-1])
            self.assertEqual(told[2 * count:], [[count, *values, 0, 0, 1], [-9]])

    def test_take_and_play_in_their_order(self):
        self.assertEqual(
            ask(row(1, 2, 9, 3), RIGHT, PLAY, LEFT, BACK, BACK, BACK, BACK, SHOWS)[1:],
            [[3], [9], [1], [1], [9], [3], [-9], [4, 1, 2, 9, 3, 0, 0, 1]],
        )


class AsBestTells(unittest.TestCase):
    def test_takes_what_best_tells(self):
        for values in ROWS:
            before = [row(*values)]
            for turn in range(len(values)):
                end = last(*before, BEST)[0]
                by_take = ask(*before, take(end), SHOWS, BACK, SHOWS)
                by_play = ask(*before, PLAY, SHOWS, BACK, SHOWS)
                self.assertEqual(by_play, by_take)
                before.append(PLAY)

    def test_leads_to_what_gets_told(self):
        for values in ROWS:
            shares = last(row(*values), GETS)
            told = last(row(*values), *[PLAY] * len(values), SHOWS)
            self.assertEqual(told, [0, *shares, 1 + len(values) % 2])

    def test_leaves_the_lead_that_best_told(self):
        for values in ROWS:
            told = ask(row(*values), BEST, PLAY, LEAD)
            self.assertEqual(told[1][1:], told[3])


class Refused(unittest.TestCase):
    def test_no_coin(self):
        for count in (1, 2, 3, 16):
            values = list(range(10, 10 + count))
            told = ask(row(*values), *[LEFT] * count, SHOWS, PLAY, SHOWS, PLAY, BACK)[count + 1:]
            shown = [0, sum(values[0::2]), sum(values[1::2]), 1 + count % 2]
            self.assertEqual(told, [shown, [-6], shown, [-6], [values[-1]]])

    def test_after_the_coin_of_a_new_object(self):
        self.assertEqual(ask(PLAY, PLAY, SHOWS, BACK, GAMES, PLAY), [[1], [-6], [0, 1, 0, 2], [1], [1], [1]])


if __name__ == "__main__":
    unittest.main()

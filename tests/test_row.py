"""row, and the object as it is new."""

import unittest

from tests.helper import (
    BACK, BEAT, BEST, GAMES, GETS, GREEDY, LEAD, LEFT, PLACES, PLAY, RIGHT, SHOWS, ask, last, row, swap,
)

PLAYED = (row(5, 8, 2), RIGHT, LEFT)
AS_PLAYED = [1, 8, 2, 5, 1]


class NewObject(unittest.TestCase):
    def test_one_coin_of_value_one_lies_there(self):
        self.assertEqual(ask(SHOWS), [[1, 1, 0, 0, 1]])

    def test_nothing_has_been_taken(self):
        self.assertEqual(ask(BACK, SHOWS), [[-9], [1, 1, 0, 0, 1]])

    def test_what_the_coin_is_worth(self):
        self.assertEqual(ask(LEAD, BEST, GETS), [[1, 1], [0, 0, 0], [1, 0]])
        self.assertEqual(ask(GAMES, PLACES, GREEDY, BEAT, swap(1, 1)), [[1], [1, 0], [1, 0], [1, 0], [1, 1]])

    def test_each_call_is_the_first(self):
        for call, told in (
            (LEFT, [1]), (RIGHT, [1]), (BACK, [-9]), (SHOWS, [1, 1, 0, 0, 1]), (LEAD, [1, 1]), (BEST, [0, 0, 0]),
            (GETS, [1, 0]), (GAMES, [1]), (PLAY, [1]), (PLACES, [1, 0]), (GREEDY, [1, 0]), (BEAT, [1, 0]),
            (swap(1, 1), [1, 1]), (swap(1, 2), [-2]), (swap(0, 1), [-2]),
        ):
            self.assertEqual(ask(call), [told])

    def test_the_coin_is_taken_from_either_end(self):
        for end in (LEFT, RIGHT, PLAY):
            self.assertEqual(
                ask(end, SHOWS, end, BACK, SHOWS),
                [[1], [0, 1, 0, 2], [-6], [1], [1, 1, 0, 0, 1]],
            )


class Laid(unittest.TestCase):
    def test_how_many_coins(self):
        for count in range(1, 17):
            values = [10 * place for place in range(1, count + 1)]
            self.assertEqual(ask(row(*values), SHOWS), [[count], [count, *values, 0, 0, 1]])

    def test_values_of_nothing_and_of_a_thousand(self):
        for values in ([0], [1000], [0] * 16, [1000] * 16, [0, 1000]):
            self.assertEqual(ask(row(*values), SHOWS), [[len(values)], [len(values), *values, 0, 0, 1]])

    def test_sets_all_anew(self):
        self.assertEqual(
            ask(*PLAYED, row(4, 6), SHOWS, BACK, LEAD, PLACES, swap(1, 2))[3:],
            [[2], [2, 4, 6, 0, 0, 1], [-9], [1, 2], [4, 6], [1, 2]],
        )

    def test_sets_all_anew_where_no_coin_lies_there(self):
        self.assertEqual(ask(LEFT, row(3), SHOWS, BACK)[1:], [[1], [1, 3, 0, 0, 1], [-9]])


class Refused(unittest.TestCase):
    def assert_refused(self, values):
        self.assertEqual(
            ask(*PLAYED, row(*values), SHOWS, BACK, BACK, SHOWS)[3:],
            [[-1], AS_PLAYED, [5], [2], [3, 5, 8, 2, 0, 0, 1]],
        )
        self.assertEqual(ask(row(*values), SHOWS), [[-1], [1, 1, 0, 0, 1]])

    def test_no_coin(self):
        self.assert_refused([])

    def test_more_than_sixteen_coins(self):
        for count in (17, 18, 39, 40):
            self.assert_refused([1] * count)
            self.assert_refused([0] * count)

    def test_a_value_above_a_thousand(self):
        for value in (1001, 1002, 65536, 4294967295):
            self.assert_refused([value])
            self.assert_refused([value] + [1] * 15)
            self.assert_refused([1] * 15 + [value])
            self.assert_refused([1] * 7 + [value] + [1] * 8)

    def test_too_many_and_too_great(self):
        self.assert_refused([4294967295] * 17)
        self.assert_refused([4294967295] * 40)

    def test_values_of_a_refused_row_are_not_calls(self):
        self.assertEqual(ask(row(*[2] * 40), SHOWS), [[-1], [1, 1, 0, 0, 1]])
        self.assertEqual(last(row(1001, 1, 0, 0), SHOWS), [1, 1, 0, 0, 1])


if __name__ == "__main__":
    unittest.main()

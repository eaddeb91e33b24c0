"""eitherend.coins.answers: the form of the list, what is handed in, and what is kept."""

import random
import time
import unittest

from eitherend.coins import UnknownCall, answers
from tests.helper import (
    BACK, BEAT, BEST, GAMES, GETS, GREEDY, LEAD, LEFT, PLACES, PLAY, RIGHT, SHOWS,
    SlowGame, ask, parted, row, swap, take, written,
)

ALL_THIRTEEN = written([
    BACK, row(5, 8, 2, 9), LEAD, BEST, GETS, GAMES, PLACES, GREEDY, BEAT, swap(1, 4), swap(0, 5), RIGHT, SHOWS,
    LEFT, BACK, PLAY, swap(2, 1), swap(3, 3), take(2), row(), row(1001), LEFT, LEFT, LEFT, LEFT,
    BEST, PLAY, BEAT, swap(1, 1), SHOWS, GETS, LEAD, GAMES, PLACES, GREEDY, BACK,
])


class Untouchable(list):
    """A list that may be read only."""

    def refuse(self, *given, **named):
        raise AssertionError("what is handed in was changed")

    __setitem__ = __delitem__ = __iadd__ = __imul__ = refuse
    append = clear = extend = insert = pop = remove = reverse = sort = refuse


class Form(unittest.TestCase):
    def test_a_count_before_each_answer(self):
        self.assertEqual(
            answers([0, 3, 5, 8, 2, 1, 0, 2, 3, 4, 5, 6]),
            [1, 3, 1, 5, 1, 5, 7, 3, 5, 8, 2, 0, 0, 1, 2, 2, 1, 3, 0, 1, 6, 2, 7, 8],
        )

    def test_one_call(self):
        self.assertEqual(answers([0, 1, 6]), [1, 1])
        self.assertEqual(answers([1, 1]), [1, 1])
        self.assertEqual(answers([2]), [1, -9])
        self.assertEqual(answers([3]), [5, 1, 1, 0, 0, 1])
        self.assertEqual(answers([4]), [2, 1, 1])
        self.assertEqual(answers([5]), [3, 0, 0, 0])
        self.assertEqual(answers([6]), [2, 1, 0])
        self.assertEqual(answers([7]), [1, 1])
        self.assertEqual(answers([8]), [1, 1])
        self.assertEqual(answers([9]), [2, 1, 0])
        self.assertEqual(answers([10]), [2, 1, 0])
        self.assertEqual(answers([11]), [2, 1, 0])
        self.assertEqual(answers([12, 1, 1]), [2, 1, 1])

    def test_the_later_calls_behind_one_another(self):
        self.assertEqual(
            answers([0, 3, 5, 8, 2, 7, 9, 10, 11, 12, 1, 2, 8, 3]),
            [1, 3, 1, 2, 2, 7, 8, 2, 7, 8, 2, 7, 0, 2, 1, 5, 1, 5, 6, 2, 8, 2, 5, 0, 2],
        )

    def test_a_refusal_is_alone(self):
        self.assertEqual(answers([0, 0, 2, 1, 2, 1, 0, 1, 0, 5]), [1, -1, 1, -9, 1, -1, 1, 1, 1, -6, 1, -6])
        self.assertEqual(answers([12, 0, 1, 8, 8, 11, 12, 1, 1]), [1, -2, 1, 1, 1, -6, 1, -6, 1, -2])

    def test_a_list_of_whole_numbers(self):
        told = answers(ALL_THIRTEEN)
        self.assertIs(type(told), list)
        for number in told:
            self.assertIs(type(number), int)

    def test_only_refusals_are_below_nothing(self):
        for part in parted(answers(ALL_THIRTEEN)):
            if min(part) < 0:
                self.assertEqual(len(part), 1)
                self.assertIn(part[0], (-1, -2, -6, -9))

    def test_a_number_of_no_call(self):
        for number in (13, 14, 4294967295):
            self.assertRaises(UnknownCall, answers, [3, number])

    def test_the_examples_of_the_readme(self):
        self.assertEqual(answers([0, 3, 5, 8, 2, 5, 1, 0, 3]), [1, 3, 3, 0, 1, 6, 1, 5, 6, 2, 8, 2, 5, 0, 2])
        self.assertEqual(
            answers([0, 4, 3, 9, 1, 3, 7, 10, 11, 12, 1, 2, 8]),
            [1, 4, 1, 2, 2, 6, 10, 2, 12, 1, 2, 1, 8, 1, 3],
        )


class HandedIn(unittest.TestCase):
    def test_is_as_it_was(self):
        calls = list(ALL_THIRTEEN)
        answers(calls)
        self.assertEqual(calls, ALL_THIRTEEN)

    def test_is_not_changed_for_a_while_either(self):
        self.assertEqual(answers(Untouchable(ALL_THIRTEEN)), answers(ALL_THIRTEEN))

    def test_is_not_given_back(self):
        calls = list(ALL_THIRTEEN)
        told = answers(calls)
        told.clear()
        self.assertEqual(calls, ALL_THIRTEEN)


class NothingKept(unittest.TestCase):
    def test_the_same_a_second_time(self):
        first = answers(list(ALL_THIRTEEN))
        for turn in range(3):
            self.assertEqual(answers(list(ALL_THIRTEEN)), first)

    def test_a_new_object_each_time(self):
        new = answers([3, 2])
        for calls in ([0, 2, 5, 6, 1, 0], [1, 0], [8], [12, 1, 1], [0, 0], [0, 16, *range(16)], [1, 0, 2]):
            answers(calls)
            self.assertEqual(answers([3, 2]), new)

    def test_what_was_given_back_is_the_askers_own(self):
        first = answers(ALL_THIRTEEN)
        copied = list(first)
        first[:] = [0] * len(first)
        self.assertEqual(answers(ALL_THIRTEEN), copied)


class Longest(unittest.TestCase):
    def assert_soon(self, calls):
        calls = list(calls)
        self.assertEqual(len(calls), 40)
        numbers = written(calls)
        self.assertLessEqual(len(numbers), 2000)
        begin = time.perf_counter()
        told = answers(numbers)
        self.assertLess(time.perf_counter() - begin, 5)
        return parted(told)

    def test_forty_rows_of_forty_values(self):
        self.assertEqual(self.assert_soon([row(*[1000] * 40)] * 40), [[-1]] * 40)

    def test_rows_of_sixteen_and_of_forty(self):
        sixteen = row(*range(985, 1001))
        forty = row(*[4294967295] * 40)
        told = self.assert_soon([sixteen, BEST, forty, LEAD, GETS] * 8)
        # Of 985 to 999 the other one gets 999, 997 .. 985, against 998, 996 .. 986.
        self.assertEqual(told, [[16], [1, 1, 992], [-1], [1, 8], [7944, 7936]] * 8)

    def test_forty_questions(self):
        for call, first in (
            (BEST, [1]), (LEAD, [1, 8]), (GETS, [72, 64]), (GAMES, [1]), (PLACES, [64, 72]), (GREEDY, [72, 64]),
            (BEAT, [72, 1]), (swap(8, 8), [1, 8]), (swap(0, 17), [-2]),
        ):
            told = self.assert_soon([row(*range(1, 17))] + [call] * 39)
            for part in told[1:]:
                self.assertEqual(part[:len(first)], first)

    def test_sixteen_like_coins(self):
        told = self.assert_soon([row(*[1000] * 16)] + [GAMES, BEAT, GREEDY, swap(1, 16)] * 9 + [PLAY, GAMES, BEAT])
        self.assertEqual(told[1:37], [[32768], [8000, 0], [8000, 8000], [0, 0]] * 9)
        self.assertEqual(told[37:], [[1000], [16384], [8000, 0]])

    def test_a_played_game_with_questions(self):
        told = self.assert_soon([row(*range(1, 17))] + [PLAY, GAMES, BEAT, GREEDY, swap(1, 1)] * 7 + [PLAY] * 4)
        self.assertEqual([part[0] for part in told[1:36:5]], [16, 15, 14, 13, 12, 11, 10])
        self.assertEqual([part[0] for part in told[2:36:5]], [1] * 7)
        self.assertEqual(told[36:], [[9], [8], [7], [6]])

    def test_a_whole_game_there_and_back(self):
        values = list(range(1, 17))
        told = self.assert_soon([row(*values)] + [RIGHT] * 16 + [BACK] * 16 + [SHOWS] * 7)
        self.assertEqual(told[-1], [16, *values, 0, 0, 1])


class AgainstSlowGame(unittest.TestCase):
    def some_call(self, source):
        number = source.choice((0, 1, 1, 1, 2, 2, 2, 3, 4, 5, 6, 7, 8, 8, 9, 10, 11, 12, 12))
        if number == 0:
            count = source.choice((0, 1, 2, 3, 4, 5, 6, 7, 17, 40))
            greatest = source.choice((1, 3, 20, 1000, 1000, 1001, 4294967295))
            return row(*[source.randint(0, greatest) for place in range(count)])
        if number == 1:
            return take(source.choice((0, 0, 0, 1, 1, 1, 2, 4294967295)))
        if number == 12:
            places = (0, 1, 1, 1, 2, 2, 2, 3, 3, 4, 5, 6, 7, 8, 4294967295)
            return swap(source.choice(places), source.choice(places))
        return [number]

    def test_calls_in_any_order(self):
        source = random.Random(1)
        for turn in range(400):
            calls = [self.some_call(source) for place in range(source.randint(1, 40))]
            self.assert_as_slow(calls)

    def test_all_thirteen_calls_in_one_list(self):
        source = random.Random(2)
        for turn in range(60):
            values = [source.randint(0, source.choice((1, 3, 1000))) for place in range(source.randint(1, 9))]
            places = [source.randint(0, len(values) + 1) for place in range(6)]
            calls = [
                LEFT, RIGHT, BACK, BACK, SHOWS, LEAD, BEST, GETS, GAMES, PLAY, PLAY, PLACES, GREEDY, BEAT,
                *[call for call in (SHOWS, BEST, GAMES, BEAT, GREEDY, PLAY) for again in range(2)],
                swap(*places[:2]), swap(*places[2:4]), swap(*places[4:]), row(*values[::-1]), BACK, take(2), PLAY,
            ]
            source.shuffle(calls)
            calls = [row(*values), *calls, SHOWS]
            self.assertLessEqual(len(calls), 40)
            self.assert_as_slow(calls)

    def test_sixteen_coins(self):
        source = random.Random(3)
        for most in (2, 1000):
            values = [source.randint(0, most) for place in range(16)]
            self.assert_as_slow([
                row(*values), SHOWS, LEAD, BEST, GETS, GAMES, PLACES, GREEDY, BEAT, swap(3, 14), swap(16, 1), swap(17, 1),
                PLAY, LEFT, GAMES, GREEDY, BEAT, swap(1, 14), swap(15, 1), PLACES, BACK, SHOWS, RIGHT, PLAY, BEAT,
                BACK, BACK, PLAY, PLAY, PLAY, GAMES, GREEDY, BEAT, swap(12, 2), PLACES, SHOWS,
            ])

    def assert_as_slow(self, calls):
        slow = SlowGame()
        numbers = written(calls)
        self.assertEqual(ask(*calls), [slow.answer(call) for call in calls], calls)
        again = list(numbers)
        self.assertEqual(answers(again), answers(again))
        self.assertEqual(again, numbers)


if __name__ == "__main__":
    unittest.main()

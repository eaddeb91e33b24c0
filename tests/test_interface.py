"""eitherend.coins.answers: the form of the list, what is handed in, and what is kept."""

import random
import time
import unittest

from eitherend.coins import UnknownCall, answers
from tests.helper import BACK, BEST, GETS, LEAD, LEFT, RIGHT, SHOWS, SlowGame, ask, parted, row, take, written

ALL_SEVEN = written([
    BACK, row(5, 8, 2, 9), LEAD, BEST, GETS, RIGHT, SHOWS, LEFT, BACK, take(2), row(), row(1001),
    LEFT, LEFT, LEFT, LEFT, BEST, SHOWS, GETS, LEAD, BACK,
])


class Untouchable(list):
    """A list that may be read only."""

    def refuse(self, *given, **named):
        raise AssertionError("what is handed in was changed")

    __setitem__ = __delitem__ = __iadd__ = __imul__ = refuse
    append = clear = extend = insert = pop = remove = reverse = sort = refuse


class Form(unittest.TestCase):
    def test_a_count_before_each_answer(self):
        self.assertEqual(
            answers([0, 3, 5, 8, 2, 1, 0, 2, 3, 4, 5, 6]),
            [1, 3, 1, 5, 1, 5, 7, 3, 5, 8, 2, 0, 0, 1, 2, 2, 1, 3, 0, 1, 6, 2, 7, 8],
        )

    def test_one_call(self):
        self.assertEqual(answers([0, 1, 6]), [1, 1])
        self.assertEqual(answers([1, 1]), [1, 1])
        self.assertEqual(answers([2]), [1, -9])
        self.assertEqual(answers([3]), [5, 1, 1, 0, 0, 1])
        self.assertEqual(answers([4]), [2, 1, 1])
        self.assertEqual(answers([5]), [3, 0, 0, 0])
        self.assertEqual(answers([6]), [2, 1, 0])

    def test_a_refusal_is_alone(self):
        self.assertEqual(answers([0, 0, 2, 1, 2, 1, 0, 1, 0, 5]), [1, -1, 1, -9, 1, -1, 1, 1, 1, -6, 1, -6])

    def test_a_list_of_whole_numbers(self):
        told = answers(ALL_SEVEN)
        self.assertIs(type(told), list)
        for number in told:
            self.assertIs(type(number), int)

    def test_only_refusals_are_below_nothing(self):
        for part in parted(answers(ALL_SEVEN)):
            if min(part) < 0:
                self.assertEqual(len(part), 1)
                self.assertIn(part[0], (-1, -6, -9))

    def test_a_number_of_no_call(self):
        self.assertRaises(UnknownCall, answers, [3, 13])

    def test_the_example_of_the_readme(self):
        self.assertEqual(answers([0, 3, 5, 8, 2, 5, 1, 0, 3]), [1, 3, 3, 0, 1, 6, 1, 5, 6, 2, 8, 2, 5, 0, 2])


class HandedIn(unittest.TestCase):
    def test_is_as_it_was(self):
        calls = list(ALL_SEVEN)
        answers(calls)
        self.assertEqual(calls, ALL_SEVEN)

    def test_is_not_changed_for_a_while_either(self):
        self.assertEqual(answers(Untouchable(ALL_SEVEN)), answers(ALL_SEVEN))

    def test_is_not_given_back(self):
        calls = list(ALL_SEVEN)
        told = answers(calls)
        told.clear()
        self.assertEqual(calls, ALL_SEVEN)


class NothingKept(unittest.TestCase):
    def test_the_same_a_second_time(self):
        first = answers(list(ALL_SEVEN))
        for turn in range(3):
            self.assertEqual(answers(list(ALL_SEVEN)), first)

    def test_a_new_object_each_time(self):
        new = answers([3, 2])
        for calls in ([0, 2, 5, 6, 1, 0], [1, 0], [1, 1], [0, 0], [0, 16, *range(16)], [1, 0, 2]):
            answers(calls)
            self.assertEqual(answers([3, 2]), new)

    def test_what_was_given_back_is_the_askers_own(self):
        first = answers(ALL_SEVEN)
        copied = list(first)
        first[:] = [0] * len(first)
        self.assertEqual(answers(ALL_SEVEN), copied)


class Longest(unittest.TestCase):
    def assert_soon(self, calls):
        calls = list(calls)
        self.assertEqual(len(calls), 40)
        numbers = written(calls)
        self.assertLessEqual(len(numbers), 2000)
        begin = time.perf_counter()
        told = answers(numbers)
        self.assertLess(time.perf_counter() - begin, 5)
        return parted(told)

    def test_forty_rows_of_forty_values(self):
        self.assertEqual(self.assert_soon([row(*[1000] * 40)] * 40), [[-1]] * 40)

    def test_rows_of_sixteen_and_of_forty(self):
        sixteen = row(*range(985, 1001))
        forty = row(*[4294967295] * 40)
        told = self.assert_soon([sixteen, BEST, forty, LEAD, GETS] * 8)
        # Of 985 to 999 the other one gets 999, 997 .. 985, against 998, 996 .. 986.
        self.assertEqual(told, [[16], [1, 1, 992], [-1], [1, 8], [7944, 7936]] * 8)

    def test_forty_questions(self):
        for call, first in ((BEST, [1]), (LEAD, [1, 8]), (GETS, [72, 64])):
            told = self.assert_soon([row(*range(1, 17))] + [call] * 39)
            for part in told[1:]:
                self.assertEqual(part[:len(first)], first)

    def test_a_whole_game_there_and_back(self):
        values = list(range(1, 17))
        told = self.assert_soon([row(*values)] + [RIGHT] * 16 + [BACK] * 16 + [SHOWS] * 7)
        self.assertEqual(told[-1], [16, *values, 0, 0, 1])


class AgainstSlowGame(unittest.TestCase):
    def some_call(self, source):
        number = source.choice((0, 1, 1, 1, 1, 2, 2, 3, 4, 5, 6))
        if number == 0:
            count = source.choice((0, 1, 2, 3, 4, 5, 6, 7, 17, 40))
            greatest = source.choice((1, 3, 20, 1000, 1000, 1001, 4294967295))
            return row(*[source.randint(0, greatest) for place in range(count)])
        if number == 1:
            return take(source.choice((0, 0, 0, 1, 1, 1, 2, 4294967295)))
        return [number]

    def test_calls_in_any_order(self):
        source = random.Random(1)
        for turn in range(400):
            calls = [self.some_call(source) for place in range(source.randint(1, 40))]
            slow = SlowGame()
            self.assertEqual(ask(*calls), [slow.answer(call) for call in calls], calls)


if __name__ == "__main__":
    unittest.main()

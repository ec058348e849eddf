"""How calls and answers are laid out, and that nothing is changed or kept."""

import contextlib
import inspect
import io
import sys
import unittest

from tests.helper import (
    GREATEST, INWAY, LEAST, OTHERWISE, PLAN, act, answered, begins, from_state, joined, prices, why)
from whynonedesk.house import answers

TOP = 4294967295


class WholeLists(unittest.TestCase):
    def test_each_call_alone(self):
        self.assertEqual(answers([0, 2, 1, 3]), [1, 0])
        self.assertEqual(answers([1, 5, 0, 1, 1, 0, 7]), [1, 0])
        self.assertEqual(answers([2, 1, 1]), [1, 0])
        self.assertEqual(answers([3, 1, 9]), [1, 0])
        self.assertEqual(answers([4]), [2, 1, 0])
        self.assertEqual(answers([5]), [1, 0])
        self.assertEqual(answers([6]), [1, 0])
        self.assertEqual(answers([7]), [1, -3])
        self.assertEqual(answers([8, 0]), [1, -2])
        self.assertEqual(answers([9]), [1, 0])

    def test_the_asking_calls_one_behind_another(self):
        house = [0, 3, 0, 6, 1, 5, 1, 0, 2, 0, 5, 1, 5, 0, 0, 4, 0, 6, 3, 3, 9, 8, 7]
        told = [1, 0, 1, 0, 1, 1, 1, 0]
        self.assertEqual(answers(house + [5, 6, 7, 8, 0, 9]),
                         told + [2, 1, 2, 2, 8, 1, 4, 1, 0, 0, 11, 4, 0, 0, 0, 0, 1, -6])
        self.assertEqual(answers(house + [2, 1, 6, 9, 8, 1, 7, 8, 2, 6, 5]),
                         told + [1, 0, 3, 11, 0, 1, 7, 0, 1, 11, 1, 11, 1, 11, 1, -3, 1, -2, 1, 0, 1, 0])

    def test_calls_one_behind_another(self):
        calls = [0, 3, 0, 7, 1, 5, 0, 2, 1, 0, 5, 1, 5, 0, 1, 2, 0, 5, 3, 3, 1, 2, 3, 4, 2, 4, 6, 4]
        given = [1, 0, 1, 0, 1, 1, 1, 0, 3, 2, 1, 2, 1, 0, 2, 1, 6]
        self.assertEqual(answers(calls), given)

    def test_refusals_stand_alone(self):
        calls = [0, 6, 0, 0, 1, 0, 3, 0, 2, 2, 0, 1, 5, 0, 0, 0, 0, 1, 4]
        self.assertEqual(answers(calls), [1, -1, 1, -1, 1, -1, 1, -1, 1, 0, 2, 1, 0])

    def test_rows_of_none_and_of_eight(self):
        calls = [1, 0, 1, 8, 4, 4, 4, 4, 4, 4, 4, 4, 3, 0, 3, 8, 1, 1, 1, 1, 1, 1, 1, 1, 4]
        self.assertEqual(answers(calls), [1, -1, 1, -1, 1, -1, 1, -1, 2, 1, 0])

    def test_numbers_in_rows_are_no_calls(self):
        self.assertEqual(answers([0, 4, 4, 4, 1, 5, 4, 4, 4, 4, 4, 4]), [1, 0, 1, 0, 2, 1, 4])

    def test_sixty_calls_of_six_hundred_numbers(self):
        calls = [act(*[TOP] * 8)] * 60
        self.assertEqual(len(joined(calls)), 600)
        self.assertEqual(answers(joined(calls)), [1, -1] * 60)

    def test_sixty_calls_that_are_taken(self):
        calls = [begins(5, 0, 31)] + [prices(1, 2, 3, 4, 5)] * 57 + [from_state(3, 7), GREATEST]
        self.assertEqual(answers(joined(calls)), [1, 0] * 59 + [2, 1, 3])

    def test_whole_numbers_only(self):
        calls = joined([begins(2, 1, 3), act(1, 0, 2, 1, 1), act(), prices(1, 1), from_state(0, 3), GREATEST,
                        LEAST, OTHERWISE, INWAY, why(0), PLAN, from_state(1, 2), INWAY, why(0), why(1), PLAN])
        given = answers(calls)
        self.assertIs(type(given), list)
        self.assertEqual({type(number) for number in given}, {int})


class NothingChangedNothingKept(unittest.TestCase):
    CALLS = joined([
        begins(3, 1, 7), act(1, 0, 2, 1, 5), act(1, 0, 4, 1, 5), act(9, 0, 0, 0, 1), prices(5, 6, 7),
        prices(0, 1, 1), GREATEST, LEAST, OTHERWISE, INWAY, why(0), PLAN, from_state(0, 6), from_state(8, 0),
        GREATEST, OTHERWISE, INWAY, from_state(1, 2), why(1), INWAY, PLAN,
    ])

    def test_the_list_stays_as_it_was(self):
        before = list(self.CALLS)
        answers(self.CALLS)
        self.assertEqual(self.CALLS, before)

    def test_the_list_is_not_changed_for_a_while_either(self):
        class Fixed(list):
            def refuse(self, *told):
                raise AssertionError("the list was changed")

            append = extend = insert = pop = remove = clear = sort = reverse = refuse
            __setitem__ = __delitem__ = __iadd__ = __imul__ = refuse

        self.assertEqual(answers(Fixed(self.CALLS)), answers(self.CALLS))

    def test_a_second_time_answers_the_same(self):
        given = answers(self.CALLS)
        self.assertEqual(answers(self.CALLS), given)
        self.assertEqual(answers(list(self.CALLS)), given)

    def test_what_is_given_back_is_new_each_time(self):
        given = answers(self.CALLS)
        kept = list(given)
        given.clear()
        self.assertEqual(answers(self.CALLS), kept)

    def test_the_house_is_new_each_time(self):
        answered(begins(5, 31, 31), *[act(0, 0, 1, 0, 1)] * 8, prices(9, 9, 9, 9, 9))
        self.assertEqual(answered(GREATEST, act(0, 0, 1, 0, 1), prices(1)), [[1, 0], [0], [0]])
        self.assertEqual(answered(LEAST, OTHERWISE, INWAY, why(0), PLAN), [[0], [0], [-3], [-2], [0]])
        self.assertEqual(answered(from_state(0, 1), OTHERWISE), [[0], [1, 0]])
        self.assertEqual(answered(act(2, 0, 0, 0, 1), prices(1, 1)), [[-1], [-1]])

    def test_nothing_is_printed(self):
        shown = io.StringIO()
        with contextlib.redirect_stdout(shown), contextlib.redirect_stderr(shown):
            answers(self.CALLS)
        self.assertEqual(shown.getvalue(), "")


class LoopsAlone(unittest.TestCase):
    def test_the_longest_lists_and_ways_need_no_deep_calls(self):
        counts_up = [act(2 ** k - 1, 2 ** k, 2 ** k, 2 ** k - 1, 1) for k in range(5)]
        asking = [GREATEST, LEAST, OTHERWISE, INWAY, why(4), PLAN]
        calls = [begins(5, 0, 31), *counts_up, *asking, *[from_state(0, 31)] * 48]
        limit = sys.getrecursionlimit()
        sys.setrecursionlimit(len(inspect.stack(0)) + 40)
        try:
            given = answered(*calls)
        finally:
            sys.setrecursionlimit(limit)
        self.assertEqual([len(answer) for answer in given], [1] * 6 + [2, 1, 1, 1, 6, 32] + [1] * 48)


if __name__ == "__main__":
    unittest.main()

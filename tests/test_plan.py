"""Plan: the first of the cheapest plans, and what it costs."""

import random
import unittest

from tests.helper import (
    GREATEST, PLAN, act, answered, asked, begins, every_plan, from_state, plan_by_the_words, prices, some_house)


def plan(n, first, wanted, *acts):
    return asked(PLAN, n, first, wanted, *acts)


class Refused(unittest.TestCase):
    def test_there_is_none(self):
        self.assertEqual(plan(1, 0, 1), [-6])
        self.assertEqual(plan(5, 30, 31, (0, 0, 30, 1, 1)), [-6])
        self.assertEqual(plan(2, 0, 3, (0, 2, 1, 0, 1), (0, 1, 2, 0, 1)), [-6])
        self.assertEqual(plan(2, 0, 2, (1, 1, 2, 0, 1)), [-6])

    def test_there_is_none_though_one_can_go_round(self):
        self.assertEqual(plan(3, 1, 4, (1, 0, 2, 1, 1), (2, 0, 1, 2, 1), (0, 0, 0, 0, 1)), [-6])

    def test_all_is_as_it_was(self):
        calls = [begins(2, 0, 2), act(1, 0, 2, 0, 3), PLAN, PLAN, GREATEST, act(0, 0, 1, 0, 4), PLAN]
        self.assertEqual(answered(*calls)[2:], [[-6], [-6], [1, 0], [1], [7, 1, 0]])


class Told(unittest.TestCase):
    def test_nothing_to_do(self):
        self.assertEqual(answered(PLAN), [[0]])
        self.assertEqual(plan(5, 0, 0, (0, 0, 31, 0, 1)), [0])
        self.assertEqual(plan(3, 7, 5, (0, 0, 1, 0, 1)), [0])

    def test_one_act(self):
        self.assertEqual(plan(1, 0, 1, (0, 0, 1, 0, 1000)), [1000, 0])
        self.assertEqual(plan(2, 0, 2, (0, 0, 1, 0, 1), (0, 0, 2, 0, 9)), [9, 1])

    def test_more_that_is_so_does_not_matter(self):
        self.assertEqual(plan(3, 4, 1, (0, 0, 3, 0, 2)), [2, 0])

    def test_one_behind_another(self):
        acts = [(2, 0, 4, 0, 3), (1, 0, 2, 0, 4), (0, 0, 1, 0, 5)]
        self.assertEqual(plan(3, 0, 4, *acts), [12, 2, 1, 0])

    def test_an_act_more_than_once(self):
        acts = [(0, 1, 1, 0, 1), (1, 2, 2, 1, 1)]
        self.assertEqual(plan(2, 0, 3, *acts), [3, 0, 1, 0])

    def test_cheaper_ahead_of_shorter(self):
        self.assertEqual(plan(2, 0, 2, (0, 0, 2, 0, 10), (0, 0, 1, 0, 4), (1, 0, 2, 0, 5)), [9, 1, 2])
        self.assertEqual(plan(2, 0, 2, (0, 0, 2, 0, 8), (0, 0, 1, 0, 4), (1, 0, 2, 0, 5)), [8, 0])

    def test_cheaper_ahead_of_lower(self):
        self.assertEqual(plan(1, 0, 1, (0, 0, 1, 0, 3), (0, 0, 1, 0, 2)), [2, 1])

    def test_what_is_brought_and_taken_away_is_so(self):
        self.assertEqual(plan(1, 0, 1, (0, 0, 1, 1, 6)), [6, 0])
        self.assertEqual(plan(1, 1, 1, (0, 0, 1, 1, 6)), [0])

    def test_an_act_that_changes_nothing_is_left_out(self):
        self.assertEqual(plan(1, 0, 1, (0, 0, 0, 0, 1), (0, 0, 1, 0, 6)), [6, 1])

    def test_what_must_not_be_is_taken_away_first(self):
        self.assertEqual(plan(2, 1, 3, (0, 1, 2, 0, 1), (1, 0, 0, 1, 1), (0, 0, 1, 0, 1)), [3, 1, 0, 2])

    def test_a_way_that_goes_through_all_states(self):
        counts_up = [(2 ** k - 1, 2 ** k, 2 ** k, 2 ** k - 1, 1000) for k in range(5)]
        ruler = [(number & -number).bit_length() - 1 for number in range(1, 32)]
        self.assertEqual(plan(5, 0, 31, *counts_up), [31000, *ruler])

    def test_prices_do_not_matter(self):
        calls = [begins(1, 0, 1), prices(1000), act(0, 0, 1, 0, 2), PLAN]
        self.assertEqual(answered(*calls)[-1], [2, 0])

    def test_from_state_counts(self):
        calls = [begins(2, 0, 2), act(1, 0, 2, 0, 4), PLAN, from_state(1, 2), PLAN, from_state(1, 3), PLAN]
        self.assertEqual(answered(*calls)[2::2], [[-6], [4, 0], [4, 0]])


class AsCheap(unittest.TestCase):
    def test_the_lower_act(self):
        self.assertEqual(plan(1, 0, 1, *[(0, 0, 1, 0, 5)] * 8), [5, 0])
        self.assertEqual(plan(1, 0, 1, (0, 0, 1, 0, 6), *[(0, 0, 1, 0, 5)] * 7), [5, 1])

    def test_the_lower_act_at_the_first_place(self):
        acts = [(2, 0, 1, 0, 1), (0, 0, 4, 0, 1), (0, 0, 2, 0, 1), (4, 0, 1, 0, 1)]
        self.assertEqual(plan(3, 0, 1, *acts), [2, 1, 3])

    def test_in_any_order(self):
        acts = [(0, 0, 2 ** k, 0, k + 1) for k in (4, 2, 0, 3, 1)]
        self.assertEqual(plan(5, 0, 31, *acts), [15, 0, 1, 2, 3, 4])
        self.assertEqual(plan(5, 4, 31, *acts), [12, 0, 2, 3, 4])

    def test_the_lower_act_not_the_shorter_plan(self):
        acts = [(0, 0, 1, 0, 4), (0, 0, 2, 0, 9), (1, 0, 2, 0, 5)]
        self.assertEqual(plan(2, 0, 2, *acts), [9, 0, 2])

    def test_the_lower_act_not_the_longer_plan(self):
        acts = [(0, 0, 2, 0, 9), (0, 0, 1, 0, 4), (1, 0, 2, 0, 5)]
        self.assertEqual(plan(2, 0, 2, *acts), [9, 0])

    def test_they_differ_at_a_later_place(self):
        acts = [(0, 0, 1, 0, 1), (1, 0, 4, 0, 3), (1, 0, 2, 0, 2), (2, 0, 4, 0, 1), (1, 0, 2, 0, 2)]
        self.assertEqual(plan(3, 0, 4, *acts), [4, 0, 1])
        acts[1] = (1, 0, 4, 0, 4)
        self.assertEqual(plan(3, 0, 4, *acts), [4, 0, 2, 3])


class ByTheWords(unittest.TestCase):
    def test_all_houses_of_one_fact_and_one_act(self):
        for number in range(64):
            first, wanted, *told = [(number >> k) % 2 for k in range(6)]
            acts = [(*told, 30)]
            with self.subTest(first=first, wanted=wanted, told=told):
                best = min(every_plan(first, wanted, acts, 3), default=None)
                self.assertEqual(plan(1, first, wanted, *acts), [-6] if best is None else [best[0], *best[1]])

    def test_many_houses(self):
        drawn = random.Random(90)
        lengths = set()
        for k in range(800):
            n, first, wanted, acts = some_house(drawn)
            with self.subTest(k=k):
                expected = plan_by_the_words(first, wanted, acts)
                lengths.add(-1 if expected == [-6] else len(expected) - 1)
                self.assertEqual(plan(n, first, wanted, *acts), expected)
        self.assertLessEqual({-1, 0, 1, 2, 3, 4}, lengths, "the draw is too narrow")


if __name__ == "__main__":
    unittest.main()

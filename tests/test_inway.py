"""Inway: single conditions without which there'd be a plan."""

import random
import unittest

from tests.helper import (
    INWAY, PLAN, act, answered, asked, begins, from_state, inway_by_the_words, some_act, some_facts, some_house)


def inway(n, first, wanted, *acts):
    return asked(INWAY, n, first, wanted, *acts)


class Refused(unittest.TestCase):
    def test_there_is_a_plan(self):
        self.assertEqual(answered(INWAY), [[-3]])
        self.assertEqual(inway(5, 0, 0), [-3])
        self.assertEqual(inway(3, 7, 5, (1, 2, 4, 0, 1)), [-3])
        self.assertEqual(inway(2, 0, 2, (0, 0, 1, 0, 1), (1, 0, 2, 0, 1)), [-3])

    def test_all_is_as_it_was(self):
        calls = [begins(2, 1, 2), act(1, 0, 2, 1, 7), INWAY, PLAN, from_state(0, 2), INWAY]
        self.assertEqual(answered(*calls), [[0], [0], [-3], [7, 0], [0], [1, 0, 0, 7]])


class Told(unittest.TestCase):
    def test_no_condition_at_all(self):
        self.assertEqual(inway(1, 0, 1), [0])
        self.assertEqual(inway(2, 0, 3, (0, 0, 1, 0, 1)), [0])

    def test_what_has_to_be_so(self):
        self.assertEqual(inway(2, 0, 2, (1, 0, 2, 0, 5)), [1, 0, 0, 5])

    def test_what_must_not_be(self):
        self.assertEqual(inway(2, 1, 2, (0, 1, 2, 0, 5)), [1, 0, 0, 5])

    def test_both_go(self):
        for first in (0, 1):
            self.assertEqual(inway(2, first, 2, (1, 1, 2, 0, 5)), [1, 0, 0, 5])

    def test_two_are_too_many(self):
        self.assertEqual(inway(3, 0, 4, (3, 0, 4, 0, 5)), [0])
        self.assertEqual(inway(3, 3, 4, (0, 3, 4, 0, 5)), [0])
        self.assertEqual(inway(3, 2, 4, (1, 2, 4, 0, 5)), [0])

    def test_a_condition_that_holds_is_not_in_the_way(self):
        self.assertEqual(inway(3, 1, 4, (3, 0, 4, 0, 5)), [1, 0, 1, 5])
        self.assertEqual(inway(3, 2, 4, (2, 1, 0, 0, 5), (0, 3, 4, 0, 6)), [1, 1, 1, 6])

    def test_a_fact_that_is_no_condition_is_not_told(self):
        self.assertEqual(inway(3, 0, 4, (2, 0, 4, 1, 5), (0, 0, 1, 0, 5)), [1, 0, 1, 5])

    def test_by_act_then_by_fact(self):
        acts = [(4, 0, 8, 0, 30), (16, 0, 1, 0, 20), (2, 0, 8, 0, 10), (1, 0, 8, 0, 7)]
        self.assertEqual(inway(5, 0, 8, *acts), [4, 0, 2, 30, 1, 4, 27, 2, 1, 10, 3, 0, 7])

    def test_two_facts_of_one_act(self):
        acts = [(1, 2, 4, 0, 5), (0, 0, 3, 0, 7)]
        self.assertEqual(inway(3, 0, 4, *acts), [2, 0, 0, 5, 0, 1, 12])

    def test_the_cheapest_plan_without_it(self):
        acts = [(0, 0, 1, 0, 100), (1, 0, 2, 0, 100), (4, 0, 3, 0, 150), (3, 4, 8, 0, 1), (8, 16, 0, 0, 1),
                (8, 8, 16, 0, 3)]
        self.assertEqual(inway(5, 0, 16, *acts), [1, 5, 3, 3])
        acts[5] = (11, 8, 16, 0, 3)
        self.assertEqual(inway(5, 0, 16, *acts), [1, 5, 3, 203])
        acts[2] = (0, 0, 3, 0, 150)
        self.assertEqual(inway(5, 0, 16, *acts), [1, 5, 3, 153])

    def test_all_of_eight_acts(self):
        acts = [(1, 0, 2, 0, cost) for cost in range(1, 9)]
        self.assertEqual(inway(2, 0, 2, *acts), [8] + [number for k in range(8) for number in (k, 0, k + 1)])

    def test_an_act_that_changes_nothing(self):
        self.assertEqual(inway(2, 0, 2, (1, 0, 0, 0, 1), (1, 0, 2, 0, 1)), [1, 1, 0, 1])

    def test_an_act_that_brings_and_takes_away_the_same_fact(self):
        self.assertEqual(inway(2, 0, 2, (1, 0, 2, 2, 9)), [1, 0, 0, 9])

    def test_only_the_one_act_is_freed(self):
        self.assertEqual(inway(3, 0, 6, (1, 0, 2, 0, 1), (1, 0, 4, 0, 1)), [0])

    def test_asking_changes_nothing(self):
        calls = [begins(2, 0, 2), act(1, 1, 2, 0, 5), INWAY, PLAN, INWAY, PLAN, INWAY, INWAY]
        self.assertEqual(answered(*calls)[2:], [[1, 0, 0, 5], [-6]] * 2 + [[1, 0, 0, 5]] * 2)


class ByTheWords(unittest.TestCase):
    def test_all_houses_of_one_fact_and_one_act(self):
        for number in range(64):
            first, wanted, *told = [(number >> k) % 2 for k in range(6)]
            with self.subTest(first=first, wanted=wanted, told=told):
                self.assertEqual(inway(1, first, wanted, (*told, 1)),
                                 inway_by_the_words(1, first, wanted, [(*told, 1)]))

    def test_many_houses(self):
        drawn = random.Random(70)
        counts = set()
        for k in range(400):
            n, first, wanted, acts = some_house(drawn)
            with self.subTest(k=k):
                expected = inway_by_the_words(n, first, wanted, acts)
                counts.add(expected[0])
                self.assertEqual(inway(n, first, wanted, *acts), expected)
        self.assertLessEqual({-3, 0, 1, 2}, counts, "the draw is too narrow")

    def test_many_houses_that_are_nearly_shut(self):
        drawn = random.Random(71)
        counts = set()
        for k in range(200):
            n = drawn.randint(3, 5)
            acts = [some_act(drawn, n, (0.3, 0.1, 0.3, 0.1)) for _ in range(drawn.randint(4, 8))]
            first, wanted = some_facts(drawn, n, 0.3), drawn.choice([1 << fact for fact in range(n)])
            with self.subTest(k=k):
                expected = inway_by_the_words(n, first, wanted, acts)
                counts.add(expected[0])
                self.assertEqual(inway(n, first, wanted, *acts), expected)
        self.assertLessEqual({-3, 0, 1, 2, 3, 4}, counts, "the draw is too narrow")


if __name__ == "__main__":
    unittest.main()

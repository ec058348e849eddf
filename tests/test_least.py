"""Least: which wishes can't be had together, but with any left out can."""

import random
import unittest

from tests.helper import (
    GREATEST, LEAST, act, answered, asked, begins, from_state, last_answer, least_by_the_words, prices, some_house)


def least(n, first, wanted, *acts):
    return asked(LEAST, n, first, wanted, *acts)


class Told(unittest.TestCase):
    def test_at_the_beginning(self):
        self.assertEqual(answered(LEAST), [[0]])
        self.assertEqual(answered(from_state(0, 1), LEAST), [[0], [1, 1]])

    def test_no_wish(self):
        self.assertEqual(least(1, 0, 0), [0])
        self.assertEqual(least(5, 0, 0, (1, 0, 31, 0, 1)), [0])

    def test_all_wishes_had_at_first(self):
        self.assertEqual(least(3, 7, 7), [0])
        self.assertEqual(least(3, 7, 5, (0, 0, 0, 7, 1)), [0])

    def test_all_can_be_had_by_acts(self):
        self.assertEqual(least(3, 0, 7, (0, 0, 1, 0, 1), (1, 0, 2, 0, 1), (2, 0, 4, 0, 1)), [0])

    def test_no_wish_can_be_had(self):
        self.assertEqual(least(5, 0, 31), [5, 1, 2, 4, 8, 16])
        self.assertEqual(least(5, 0, 21), [3, 1, 4, 16])

    def test_wishes_that_shut_one_another_out(self):
        self.assertEqual(least(2, 0, 3, (0, 2, 1, 0, 1), (0, 1, 2, 0, 1)), [1, 3])
        self.assertEqual(least(3, 1, 7, (1, 0, 2, 1, 1), (1, 0, 4, 1, 1)), [3, 3, 5, 6])

    def test_each_two_of_three_but_not_all(self):
        self.assertEqual(least(3, 0, 7, (0, 7, 3, 0, 1), (0, 7, 5, 0, 1), (0, 7, 6, 0, 1)), [1, 7])

    def test_each_four_of_five_but_not_all(self):
        self.assertEqual(least(5, 0, 31, *[(0, 31, 31 - 2 ** k, 0, 1) for k in range(5)]), [1, 31])

    def test_with_unlike_many_wishes_rising_as_numbers(self):
        self.assertEqual(least(4, 0, 15, (0, 15, 3, 0, 1), (0, 15, 5, 0, 1), (0, 15, 6, 0, 1)), [2, 7, 8])
        self.assertEqual(least(4, 0, 15, (0, 15, 12, 0, 1), (0, 15, 10, 0, 1), (0, 15, 6, 0, 1)), [2, 1, 14])

    def test_ten_of_them(self):
        self.assertEqual(least(5, 0, 31, *[(0, 31, 2 ** k, 0, 1) for k in range(5)]),
                         [10, 3, 5, 6, 9, 10, 12, 17, 18, 20, 24])

    def test_a_set_that_holds_another_is_not_least(self):
        self.assertEqual(least(3, 0, 7, (0, 0, 1, 0, 1), (0, 0, 2, 0, 1)), [1, 4])

    def test_facts_that_are_not_wanted_are_not_told(self):
        self.assertEqual(least(4, 0, 6, (0, 15, 11, 0, 1), (0, 15, 13, 0, 1)), [1, 6])

    def test_had_at_different_times_is_not_together(self):
        self.assertEqual(least(2, 1, 3, (1, 0, 2, 1, 1), (2, 0, 1, 2, 1)), [1, 3])

    def test_an_act_that_needs_a_fact_and_must_not_have_it(self):
        for first in (0, 1):
            self.assertEqual(least(2, first, 2, (1, 1, 2, 0, 1)), [1, 2])

    def test_an_act_that_brings_and_takes_away_the_same_fact(self):
        self.assertEqual(least(1, 0, 1, (0, 0, 1, 1, 1)), [0])

    def test_an_act_that_changes_nothing(self):
        self.assertEqual(least(2, 1, 3, (0, 0, 0, 0, 1), (0, 0, 1, 0, 1)), [1, 2])

    def test_costs_and_prices_do_not_matter(self):
        calls = [begins(2, 0, 3), act(0, 2, 1, 0, 1000), prices(1000, 1), act(0, 1, 2, 0, 1), LEAST]
        self.assertEqual(last_answer(*calls), [1, 3])

    def test_asking_changes_nothing(self):
        calls = [begins(2, 0, 3), act(0, 2, 1, 0, 1), act(0, 1, 2, 0, 1)]
        self.assertEqual(answered(*calls, *[LEAST, GREATEST] * 5)[3:], [[1, 3], [2, 1, 2]] * 5)


class ByTheWords(unittest.TestCase):
    def test_all_houses_of_one_fact_and_one_act(self):
        for number in range(64):
            first, wanted, *told = [(number >> k) % 2 for k in range(6)]
            with self.subTest(first=first, wanted=wanted, told=told):
                self.assertEqual(least(1, first, wanted, (*told, 1)), least_by_the_words(first, wanted, [told]))

    def test_many_houses(self):
        drawn = random.Random(50)
        counts = set()
        for k in range(600):
            n, first, wanted, acts = some_house(drawn)
            with self.subTest(k=k):
                expected = least_by_the_words(first, wanted, acts)
                counts.add(expected[0])
                self.assertEqual(least(n, first, wanted, *acts), expected)
        self.assertLessEqual({0, 1, 2, 3, 4}, counts, "the draw is too narrow")


if __name__ == "__main__":
    unittest.main()

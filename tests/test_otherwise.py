"""Otherwise: what would have to be otherwise at first, at the least, for a plan."""

import random
import unittest

from tests.helper import (
    LEAST, OTHERWISE, PLAN, act, answered, asked, begins, from_state, last_answer, otherwise_by_the_words, prices,
    some_house)
from whynonedesk.house import House


def otherwise(n, first, wanted, each, *acts):
    return last_answer(begins(n, first, wanted), *[act(*told) for told in acts], prices(*each), OTHERWISE)


class ThereIsAPlan(unittest.TestCase):
    def test_nought_and_none(self):
        self.assertEqual(answered(OTHERWISE), [[0]])
        self.assertEqual(otherwise(5, 0, 0, [9] * 5), [0])
        self.assertEqual(otherwise(3, 7, 5, [9] * 3), [0])
        self.assertEqual(otherwise(2, 0, 3, [9, 9], (0, 0, 1, 0, 1000), (1, 0, 2, 0, 1000)), [0])

    def test_what_the_acts_cost_does_not_matter(self):
        self.assertEqual(otherwise(1, 0, 1, [1], (0, 0, 1, 0, 1000)), [0])
        self.assertEqual(otherwise(2, 0, 2, [2, 3], (1, 0, 2, 0, 1000)), [2, 0])


class Cheapest(unittest.TestCase):
    def test_what_is_wanted_itself(self):
        self.assertEqual(otherwise(1, 0, 1, [1]), [1, 0])
        self.assertEqual(otherwise(5, 0, 31, [1, 20, 300, 400, 1000]), [1721, 0, 1, 2, 3, 4])
        self.assertEqual(otherwise(5, 9, 31, [1, 20, 300, 400, 1000]), [1320, 1, 2, 4])

    def test_a_fact_that_is_so_and_would_have_to_be_not_so(self):
        self.assertEqual(otherwise(2, 1, 2, [4, 9], (0, 1, 2, 0, 1)), [4, 0])
        self.assertEqual(otherwise(2, 1, 2, [4, 3], (0, 1, 2, 0, 1)), [3, 1])

    def test_the_price_goes_for_both_ways(self):
        # Fact 0 would have to be not so, fact 1 so: both are paid.
        self.assertEqual(otherwise(3, 1, 4, [5, 6, 12], (2, 1, 4, 0, 1)), [11, 0, 1])
        self.assertEqual(otherwise(3, 1, 4, [5, 6, 10], (2, 1, 4, 0, 1)), [10, 2])

    def test_many_that_are_cheap_ahead_of_one_that_is_dear(self):
        acts = [(30, 0, 1, 0, 1)]
        self.assertEqual(otherwise(5, 0, 1, [41, 10, 10, 10, 10], *acts), [40, 1, 2, 3, 4])
        self.assertEqual(otherwise(5, 0, 1, [39, 10, 10, 10, 10], *acts), [39, 0])

    def test_a_wish_that_is_so_may_be_given_up_at_first(self):
        self.assertEqual(otherwise(2, 1, 3, [1, 5], (0, 1, 3, 0, 1)), [1, 0])


class AsCheap(unittest.TestCase):
    def test_the_fewest_facts(self):
        self.assertEqual(otherwise(3, 0, 4, [1, 1, 2], (3, 0, 4, 0, 1)), [2, 2])
        self.assertEqual(otherwise(5, 0, 16, [1, 1, 1, 1, 4], (15, 0, 16, 0, 1)), [4, 4])
        self.assertEqual(otherwise(5, 0, 16, [1, 1, 3, 1, 4], (7, 0, 16, 0, 1), (12, 0, 16, 0, 1)), [4, 4])

    def test_the_first_of_as_many(self):
        self.assertEqual(otherwise(3, 0, 4, [7, 7, 7], (1, 0, 4, 0, 1), (2, 0, 4, 0, 1)), [7, 0])
        self.assertEqual(otherwise(3, 0, 4, [7, 7, 7], (2, 0, 4, 0, 1)), [7, 1])
        self.assertEqual(otherwise(2, 0, 2, [1, 1], (1, 0, 2, 0, 1)), [1, 0])

    def test_the_first_of_as_many_is_not_the_lower_number(self):
        # Facts 0 and 3 are the number 9, facts 1 and 2 the number 6.
        acts = [(9, 0, 16, 0, 1), (6, 0, 16, 0, 1)]
        self.assertEqual(otherwise(5, 0, 16, [1, 1, 1, 1, 9], *acts), [2, 0, 3])
        self.assertEqual(otherwise(5, 0, 16, [2, 1, 1, 1, 9], *acts), [2, 1, 2])

    def test_they_differ_at_the_second_place(self):
        acts = [(9, 0, 16, 0, 1), (5, 0, 16, 0, 1)]
        self.assertEqual(otherwise(5, 0, 16, [1, 1, 1, 1, 9], *acts), [2, 0, 2])


class TakenOf(unittest.TestCase):
    TOLD = [begins(3, 0, 4), act(1, 0, 4, 0, 1), act(2, 0, 4, 0, 1)]

    def test_prices_are_one_at_first(self):
        self.assertEqual(answered(*self.TOLD, OTHERWISE)[-1], [1, 0])

    def test_prices_told(self):
        self.assertEqual(answered(*self.TOLD, prices(9, 8, 1000), OTHERWISE)[-1], [8, 1])
        self.assertEqual(answered(*self.TOLD, prices(9, 8, 1000), prices(8, 9, 7), OTHERWISE)[-1], [7, 2])

    def test_prices_refused(self):
        for wrong in (prices(), prices(1, 1), prices(1, 0, 1), prices(1, 1, 1001), prices(1, 1, 1, 1)):
            with self.subTest(wrong=wrong):
                self.assertEqual(answered(*self.TOLD, prices(9, 8, 7), wrong, OTHERWISE)[-2:], [[-1], [7, 2]])

    def test_prices_behind_begins(self):
        calls = [*self.TOLD, prices(9, 8, 7), begins(3, 0, 5), OTHERWISE, begins(2, 0, 2), OTHERWISE]
        self.assertEqual(answered(*calls)[-3:], [[2, 0, 2], [0], [1, 1]])

    def test_prices_behind_begins_that_is_refused(self):
        self.assertEqual(answered(*self.TOLD, prices(9, 8, 7), begins(3, 8, 0), OTHERWISE)[-2:], [[-1], [7, 2]])

    def test_prices_behind_from_state(self):
        self.assertEqual(answered(*self.TOLD, prices(9, 8, 7), from_state(0, 7), OTHERWISE)[-1], [17, 0, 1])

    def test_asking_changes_nothing(self):
        calls = [*self.TOLD, prices(9, 8, 10), *[OTHERWISE, LEAST, PLAN] * 3]
        self.assertEqual(answered(*calls)[4:], [[8, 1], [1, 4], [-6]] * 3)


class Refused(unittest.TestCase):
    def test_no_plan_whatever_is_otherwise(self):
        # All wishes may be so at first, and no call tells a wish that isn't a fact: the house is set by hand.
        house = House()
        house.begins(2, 0, 0)
        house.act([0, 0, 3, 0, 1])
        house.wanted = 4
        self.assertEqual(house.otherwise(), [-6])
        self.assertEqual((house.first, house.wanted, len(house.acts), house.price_list), (0, 4, 1, [1, 1]))

    def test_never_by_calls(self):
        for n in range(1, 6):
            for first in range(2 ** n):
                with self.subTest(n=n, first=first):
                    self.assertEqual(asked(OTHERWISE, n, first, 2 ** n - 1)[0], n - first.bit_count())


class ByTheWords(unittest.TestCase):
    def test_all_houses_of_one_fact_and_one_act(self):
        for number in range(64):
            first, wanted, *told = [(number >> k) % 2 for k in range(6)]
            with self.subTest(first=first, wanted=wanted, told=told):
                self.assertEqual(otherwise(1, first, wanted, [30], (*told, 1)),
                                 otherwise_by_the_words(1, first, wanted, [told], [30]))

    def test_many_houses(self):
        drawn = random.Random(60)
        counts = set()
        for k in range(600):
            n, first, wanted, acts = some_house(drawn)
            most = drawn.choice((1, 3, 6, 1000))
            each = [drawn.randint(1, most) for _ in range(n)]
            with self.subTest(k=k):
                expected = otherwise_by_the_words(n, first, wanted, acts, each)
                counts.add(len(expected) - 1)
                self.assertEqual(otherwise(n, first, wanted, each, *acts), expected)
        self.assertLessEqual({0, 1, 2, 3}, counts, "the draw is too narrow")


if __name__ == "__main__":
    unittest.main()

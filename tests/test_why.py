"""Why: the cheapest plan, the cheapest that has an act, and the cheapest that begins with it."""

import random
import unittest

from tests.helper import (
    GREATEST, PLAN, act, answered, asked, begins, cheapest_plan, every_plan, from_state, some_act,
    some_facts, some_house, why, why_by_the_words)

TOP = 4294967295


def asked_why(k, n, first, wanted, *acts):
    return asked(why(k), n, first, wanted, *acts)


class Refused(unittest.TestCase):
    def test_there_is_no_such_act(self):
        self.assertEqual(answered(why(0), why(1), why(TOP)), [[-2]] * 3)
        for count in range(9):
            acts = [(0, 0, 1, 0, 1)] * count
            for k in (count, count + 1, 8, TOP):
                with self.subTest(count=count, k=k):
                    self.assertEqual(asked_why(k, 1, 0, 1, *acts), [-2])

    def test_there_is_such_an_act(self):
        for k in range(8):
            self.assertEqual(asked_why(k, 1, 0, 1, *[(0, 0, 1, 0, 1)] * 8), [0, 1, 1, 1, 1, 1, 1])

    def test_acts_from_ahead_of_begins_are_gone(self):
        self.assertEqual(answered(act(0, 0, 1, 0, 1), why(0), begins(1, 0, 1), why(0))[-1], [-2])

    def test_a_refused_act_is_none(self):
        self.assertEqual(answered(act(0, 0, 1, 0, 1001), why(0)), [[-1], [-2]])

    def test_all_is_as_it_was(self):
        calls = [begins(2, 0, 2), act(0, 1, 2, 0, 3), why(1), PLAN, GREATEST, why(0), act(0, 0, 0, 0, 1)]
        self.assertEqual(answered(*calls)[2:], [[-2], [3, 0], [1, 2], [0, 1, 3, 1, 3, 1, 3], [1]])


class Told(unittest.TestCase):
    def test_no_plan_at_all(self):
        self.assertEqual(asked_why(0, 2, 0, 2, (0, 0, 1, 0, 1)), [0, 0, 0, 0])

    def test_an_act_that_is_dearer(self):
        acts = [(0, 0, 1, 0, 5), (0, 0, 1, 0, 8)]
        self.assertEqual(asked_why(0, 1, 0, 1, *acts), [0, 1, 5, 1, 5, 1, 5])
        self.assertEqual(asked_why(1, 1, 0, 1, *acts), [0, 1, 5, 1, 8, 1, 8])

    def test_an_act_that_cannot_be_first(self):
        acts = [(0, 0, 1, 0, 5), (1, 0, 2, 0, 8)]
        self.assertEqual(asked_why(1, 2, 0, 2, *acts), [0, 1, 13, 1, 13, 0])
        self.assertEqual(asked_why(1, 2, 0, 1, *acts), [0, 1, 5, 1, 13, 0])

    def test_an_act_that_can_never_be_done(self):
        self.assertEqual(asked_why(1, 1, 0, 1, (0, 0, 1, 0, 5), (1, 1, 1, 0, 8)), [0, 1, 5, 0, 0])

    def test_an_act_behind_which_there_is_no_plan(self):
        acts = [(2, 0, 1, 0, 5), (0, 0, 0, 3, 8)]
        self.assertEqual(asked_why(1, 2, 2, 1, *acts), [0, 1, 5, 0, 0])

    def test_first_is_dearer_than_somewhere(self):
        # Act 1 is cheap to add at the end, but ahead of act 0 it makes a dearer way needed.
        acts = [(0, 2, 1, 0, 5), (0, 0, 2, 0, 3), (2, 0, 1, 0, 50)]
        self.assertEqual(asked_why(1, 2, 0, 1, *acts), [0, 1, 5, 1, 8, 1, 53])

    def test_a_plan_may_go_on_behind_what_is_wanted(self):
        acts = [(0, 0, 1, 0, 5), (1, 0, 0, 1, 2)]
        self.assertEqual(asked_why(1, 1, 0, 1, *acts), [0, 1, 5, 1, 12, 0])

    def test_wishes_had_at_first(self):
        self.assertEqual(asked_why(0, 1, 1, 1, (0, 0, 0, 0, 7)), [0, 1, 0, 1, 7, 1, 7])
        self.assertEqual(asked_why(0, 1, 1, 1, (0, 0, 0, 1, 7)), [0, 1, 0, 0, 0])
        self.assertEqual(asked_why(0, 1, 1, 1, (0, 0, 0, 1, 7), (0, 0, 1, 0, 4)), [0, 1, 0, 1, 11, 1, 11])

    def test_no_wish(self):
        self.assertEqual(asked_why(0, 1, 0, 0, (0, 0, 1, 0, 1000)), [0, 1, 0, 1, 1000, 1, 1000])
        self.assertEqual(asked_why(0, 1, 0, 0, (1, 0, 1, 0, 1000)), [0, 1, 0, 0, 0])
        self.assertEqual(asked_why(1, 1, 0, 0, (0, 0, 1, 0, 10), (1, 0, 1, 0, 1000)), [0, 1, 0, 1, 1010, 0])

    def test_an_act_that_changes_nothing(self):
        self.assertEqual(asked_why(1, 1, 0, 1, (0, 0, 1, 0, 5), (0, 0, 0, 0, 8)), [0, 1, 5, 1, 13, 1, 13])
        self.assertEqual(asked_why(1, 1, 0, 1, (0, 0, 1, 0, 5), (1, 0, 1, 0, 8)), [0, 1, 5, 1, 13, 0])

    def test_the_act_again_at_the_beginning(self):
        acts = [(0, 1, 1, 0, 3), (1, 2, 2, 1, 4), (0, 0, 0, 1, 9)]
        self.assertEqual(asked_why(0, 2, 0, 3, *acts), [0, 1, 10, 1, 10, 1, 10])
        self.assertEqual(asked_why(2, 2, 0, 3, *acts), [0, 1, 10, 1, 19, 1, 19])

    def test_a_way_there_and_a_way_back(self):
        acts = [(1, 0, 2, 1, 10), (2, 0, 4, 2, 10), (4, 0, 8, 0, 10), (8, 0, 1, 4, 10)]
        self.assertEqual(asked_why(3, 4, 1, 1, *acts), [0, 1, 0, 1, 40, 0])

    def test_a_way_through_all_states_and_back(self):
        counts_up = [(2 ** k - 1, 2 ** k, 2 ** k, 2 ** k - 1, 1000) for k in range(5)]
        acts = [*counts_up, (31, 0, 0, 31, 1000)]
        self.assertEqual(asked_why(5, 5, 0, 31, *acts), [0, 1, 31000, 1, 63000, 0])
        self.assertEqual(asked_why(5, 5, 31, 31, *acts), [0, 1, 0, 1, 32000, 1, 32000])

    def test_from_state_counts(self):
        calls = [begins(2, 0, 2), act(1, 0, 2, 0, 4), why(0), from_state(1, 2), why(0), from_state(2, 2), why(0)]
        self.assertEqual(answered(*calls)[2::2], [[0, 0, 0, 0], [0, 1, 4, 1, 4, 1, 4], [0, 1, 0, 0, 0]])


class ByTheWords(unittest.TestCase):
    def test_the_second_way_against_every_plan(self):
        drawn = random.Random(80)
        for k in range(300):
            n, first, wanted, acts = some_house(drawn)
            if n > 2 or len(acts) > 3:
                continue
            plans = list(every_plan(first, wanted, acts, 7))
            with self.subTest(k=k):
                self.assertEqual(cheapest_plan(first, wanted, acts), min(plans, default=None))
                for number in range(len(acts)):
                    having = min([plan for plan in plans if number in plan[1]], default=None)
                    leading = min([plan for plan in plans if plan[1][:1] == [number]], default=None)
                    self.assertEqual(cheapest_plan(first, wanted, acts, number), having)
                    expected = [0]
                    for plan in (min(plans, default=None), having, leading):
                        expected += [0] if plan is None else [1, plan[0]]
                    self.assertEqual(asked_why(number, n, first, wanted, *acts), expected)

    def check(self, n, first, wanted, acts):
        """Fails if an act is answered otherwise; else the forms of the answers, and which costs are the same."""
        forms = set()
        for number in range(len(acts)):
            with self.subTest(first=first, wanted=wanted, acts=acts, number=number):
                expected = why_by_the_words(first, wanted, acts, number)
                self.assertEqual(asked_why(number, n, first, wanted, *acts), expected)
                forms.add(len(expected))
                if len(expected) == 7:
                    forms.add((expected[2] == expected[4], expected[4] == expected[6]))
        return forms

    def test_many_houses(self):
        drawn = random.Random(81)
        forms = set()
        for _ in range(250):
            forms |= self.check(*some_house(drawn))
        self.assertLessEqual({4, 5, 6, 7, (True, True), (False, True)}, forms, "the draw is too narrow")

    def test_many_houses_with_long_ways(self):
        drawn = random.Random(82)
        forms = set()
        for _ in range(60):
            n = drawn.randint(3, 5)
            acts = [some_act(drawn, n, (0.1, 0.2, 0.3, 0.3)) for _ in range(drawn.randint(4, 8))]
            forms |= self.check(n, some_facts(drawn, n, 0.3), some_facts(drawn, n, 0.8), acts)
        self.assertEqual(forms, {4, 5, 6, 7, (True, True), (True, False), (False, True), (False, False)},
                         "the draw is too narrow")


if __name__ == "__main__":
    unittest.main()

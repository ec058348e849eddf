"""Greatest: which wishes can be had together, but with no wish more."""

import random
import unittest

from tests.helper import GREATEST, act, begins, from_state, greatest_by_the_words, last_answer, prices


def greatest(n, first, wanted, *acts):
    return last_answer(begins(n, first, wanted), *[act(*told) for told in acts], GREATEST)


class Told(unittest.TestCase):
    def test_no_wish(self):
        self.assertEqual(greatest(1, 0, 0), [1, 0])
        self.assertEqual(greatest(5, 31, 0), [1, 0])
        self.assertEqual(greatest(2, 1, 0, (1, 0, 2, 1, 1), (2, 0, 1, 2, 1)), [1, 0])

    def test_all_wishes_had_at_first(self):
        self.assertEqual(greatest(3, 7, 7), [1, 7])
        self.assertEqual(greatest(3, 7, 5), [1, 5])
        self.assertEqual(greatest(3, 7, 5, (0, 0, 0, 7, 1)), [1, 5])

    def test_no_wish_can_be_had(self):
        self.assertEqual(greatest(3, 0, 7), [1, 0])
        self.assertEqual(greatest(3, 1, 6, (2, 0, 4, 0, 1), (4, 0, 2, 0, 1)), [1, 0])

    def test_all_can_be_had_by_acts(self):
        self.assertEqual(greatest(3, 0, 7, (0, 0, 1, 0, 1), (1, 0, 2, 0, 1), (2, 0, 4, 0, 1)), [1, 7])

    def test_wishes_that_shut_one_another_out(self):
        self.assertEqual(greatest(2, 0, 3, (0, 2, 1, 0, 1), (0, 1, 2, 0, 1)), [2, 1, 2])
        self.assertEqual(greatest(3, 1, 7, (1, 0, 2, 1, 1), (1, 0, 4, 1, 1)), [3, 1, 2, 4])

    def test_rising_as_numbers_not_as_they_are_come_to(self):
        self.assertEqual(greatest(3, 0, 7, (0, 7, 4, 0, 1), (0, 7, 3, 0, 1)), [2, 3, 4])
        self.assertEqual(greatest(4, 0, 15, (0, 15, 12, 0, 1), (0, 15, 9, 0, 1), (0, 15, 6, 0, 1)), [3, 6, 9, 12])
        self.assertEqual(greatest(5, 0, 31, (0, 31, 16, 0, 1), (0, 31, 14, 0, 1), (0, 31, 9, 0, 1)), [3, 9, 14, 16])

    def test_with_unlike_many_wishes_both_are_greatest(self):
        self.assertEqual(greatest(4, 0, 15, (0, 15, 8, 0, 1), (0, 15, 7, 0, 1)), [2, 7, 8])

    def test_a_set_within_another_is_not_greatest(self):
        self.assertEqual(greatest(3, 0, 7, (0, 7, 1, 0, 1), (0, 7, 5, 0, 1), (0, 7, 2, 0, 1)), [2, 2, 5])

    def test_each_set_once(self):
        self.assertEqual(greatest(3, 0, 1, (0, 7, 3, 0, 1), (0, 7, 5, 0, 1), (0, 7, 1, 0, 1)), [1, 1])

    def test_facts_that_are_not_wanted_are_not_told(self):
        self.assertEqual(greatest(4, 0, 6, (0, 15, 11, 0, 1), (0, 15, 13, 0, 1)), [2, 2, 4])

    def test_an_act_that_needs_a_fact_and_must_not_have_it(self):
        self.assertEqual(greatest(2, 0, 2, (1, 1, 2, 0, 1)), [1, 0])
        self.assertEqual(greatest(2, 1, 2, (1, 1, 2, 0, 1)), [1, 0])

    def test_an_act_that_brings_and_takes_away_the_same_fact(self):
        self.assertEqual(greatest(1, 0, 1, (0, 0, 1, 1, 1)), [1, 1])
        self.assertEqual(greatest(2, 1, 3, (0, 0, 3, 1, 1)), [1, 3])
        self.assertEqual(greatest(2, 0, 2, (0, 0, 1, 1, 1), (1, 0, 2, 0, 1)), [1, 2])

    def test_all_that_is_needed_has_to_be_so(self):
        self.assertEqual(greatest(3, 1, 4, (3, 0, 4, 0, 1)), [1, 0])
        self.assertEqual(greatest(3, 3, 4, (3, 0, 4, 0, 1)), [1, 4])

    def test_none_that_must_not_be_is_so(self):
        self.assertEqual(greatest(3, 1, 4, (0, 3, 4, 0, 1)), [1, 0])
        self.assertEqual(greatest(3, 0, 4, (0, 3, 4, 0, 1)), [1, 4])

    def test_what_is_taken_away_is_not_so_and_others_are_as_before(self):
        self.assertEqual(greatest(3, 3, 7, (0, 0, 4, 1, 1)), [2, 3, 6])

    def test_a_fact_taken_away_makes_room(self):
        self.assertEqual(greatest(3, 1, 7, (1, 0, 0, 1, 1), (0, 1, 6, 0, 1)), [2, 1, 6])

    def test_a_way_that_goes_through_all_states(self):
        counts_up = [(2 ** k - 1, 2 ** k, 2 ** k, 2 ** k - 1, 1) for k in range(5)]
        self.assertEqual(greatest(5, 0, 31, *counts_up), [1, 31])
        self.assertEqual(greatest(5, 1, 30, *counts_up), [1, 30])
        self.assertEqual(greatest(5, 0, 31, *counts_up[:4]), [1, 15])
        self.assertEqual(greatest(5, 0, 31, *counts_up[1:]), [1, 0])

    def test_five_facts_and_eight_acts(self):
        pairs = (3, 5, 9, 17, 6, 10, 18, 12)
        acts = [(0, 31, pair, 0, 1000) for pair in pairs]
        self.assertEqual(greatest(5, 0, 31, *acts), [8, 3, 5, 6, 9, 10, 12, 17, 18])
        self.assertEqual(greatest(5, 0, 30, *acts), [4, 6, 10, 12, 18])

    def test_costs_and_prices_do_not_matter(self):
        calls = [begins(2, 0, 3), act(0, 0, 1, 0, 1000), prices(1000, 1), act(1, 0, 2, 0, 1), GREATEST]
        self.assertEqual(last_answer(*calls), [1, 3])

    def test_asking_changes_nothing(self):
        calls = [begins(2, 0, 3), act(0, 2, 1, 0, 1), act(0, 1, 2, 0, 1)]
        for _ in range(10):
            calls.append(GREATEST)
            self.assertEqual(last_answer(*calls), [2, 1, 2])

    def test_acts_told_behind_an_asking_count(self):
        calls = [begins(2, 0, 3), GREATEST, act(0, 0, 1, 0, 1), from_state(2, 3), GREATEST]
        self.assertEqual(last_answer(*calls), [1, 3])


class ByTheWords(unittest.TestCase):
    def test_all_houses_of_one_fact_and_one_act(self):
        for number in range(64):
            first, wanted, *told = [(number >> k) % 2 for k in range(6)]
            with self.subTest(first=first, wanted=wanted, told=told):
                self.assertEqual(greatest(1, first, wanted, (*told, 1)),
                                 greatest_by_the_words(first, wanted, [told]))

    def test_many_houses(self):
        drawn = random.Random(20)
        counts = set()
        for k in range(3000):
            n = drawn.randint(1, 5)
            whole = 2 ** n - 1
            first = drawn.choice((0, drawn.randint(0, whole)))
            wanted = drawn.randint(0, whole) | drawn.randint(0, whole)
            # Few needs and many bars make acts that shut one another out, and so many greatest sets.
            shares = drawn.choice(((0.3, 0.3, 0.3, 0.3), (0.5, 0.1, 0.2, 0.5), (0.0, 1.0, 0.4, 0.1)))
            acts = [self.some_act(drawn, n, shares) for _ in range(drawn.randint(0, 8))]
            with self.subTest(k=k):
                expected = greatest_by_the_words(first, wanted, acts)
                counts.add(expected[0])
                self.assertEqual(greatest(n, first, wanted, *acts), expected)
        self.assertEqual(counts, {1, 2, 3, 4}, "the draw is too narrow")

    def some_act(self, drawn, n, shares):
        sets = [sum(1 << k for k in range(n) if drawn.random() < share) for share in shares]
        return (*sets, drawn.randint(1, 1000))


if __name__ == "__main__":
    unittest.main()

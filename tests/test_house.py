"""Begins, act, from and prices: what they do, and what they refuse."""

import unittest

from tests.helper import GREATEST, act, answered, begins, from_state, last_answer, prices
from whynonedesk.house import House

TOP = 4294967295
IDLE = act(0, 0, 0, 0, 1)


def inside(house):
    acts = [(one.needs, one.bars, one.brings, one.takes, one.cost) for one in house.acts]
    return (house.fact_count, house.first, house.wanted, acts, list(house.price_list))


class Beginning(unittest.TestCase):
    def test_one_fact(self):
        self.assertEqual(answered(from_state(1, 1)), [[0]])
        self.assertEqual(answered(from_state(2, 0)), [[-1]])
        self.assertEqual(answered(from_state(0, 2)), [[-1]])
        self.assertEqual(answered(act(1, 1, 1, 1, 1)), [[0]])
        self.assertEqual(answered(act(2, 0, 0, 0, 1)), [[-1]])
        self.assertEqual(answered(prices(1)), [[0]])
        self.assertEqual(answered(prices(1, 1)), [[-1]])

    def test_nothing_so_nothing_wanted_no_act(self):
        self.assertEqual(answered(GREATEST), [[1, 0]])
        self.assertEqual(answered(act(0, 0, 1, 0, 1), GREATEST), [[0], [1, 0]])
        self.assertEqual(answered(from_state(0, 1), GREATEST), [[0], [1, 0]])

    def test_inside(self):
        self.assertEqual(inside(House()), (1, 0, 0, [], [1]))


class Begins(unittest.TestCase):
    def test_one_to_five_facts(self):
        for n in range(1, 6):
            whole = 2 ** n - 1
            with self.subTest(n=n):
                self.assertEqual(answered(begins(n, 0, 0)), [[0]])
                self.assertEqual(answered(begins(n, whole, whole), GREATEST), [[0], [1, whole]])

    def test_not_one_to_five_facts(self):
        for n in (0, 6, 7, 8, 31, 32, 33, 64, TOP - 1, TOP):
            with self.subTest(n=n):
                self.assertEqual(answered(begins(n, 0, 0)), [[-1]])
                self.assertEqual(answered(begins(n, 1, 1)), [[-1]])
                self.assertEqual(answered(begins(n, TOP, TOP)), [[-1]])

    def test_a_fact_that_there_is_not(self):
        for n in range(1, 6):
            for wrong in (2 ** n, 2 ** n + 1, 2 ** (n + 1) - 1, 2 ** 31, TOP):
                with self.subTest(n=n, wrong=wrong):
                    self.assertEqual(answered(begins(n, wrong, 0)), [[-1]])
                    self.assertEqual(answered(begins(n, 0, wrong)), [[-1]])
                    self.assertEqual(answered(begins(n, wrong, wrong)), [[-1]])

    def test_the_facts_that_there_were_do_not_count(self):
        self.assertEqual(answered(begins(5, 0, 0), begins(1, 2, 0), begins(1, 0, 2)), [[0], [-1], [-1]])
        self.assertEqual(answered(begins(1, 0, 0), begins(5, 16, 16), GREATEST), [[0], [0], [1, 16]])

    def test_no_acts_and_numbers_from_nought_again(self):
        calls = [begins(1, 0, 1), act(0, 0, 1, 0, 1), IDLE, GREATEST, begins(1, 0, 1), GREATEST, IDLE, IDLE]
        self.assertEqual(answered(*calls), [[0], [0], [1], [1, 1], [0], [1, 0], [0], [1]])

    def test_room_for_eight_acts_again(self):
        calls = [*[IDLE] * 9, begins(1, 0, 0), *[IDLE] * 9]
        numbers = [[k] for k in range(8)] + [[-7]]
        self.assertEqual(answered(*calls), numbers + [[0]] + numbers)

    def test_all_prices_are_one(self):
        house = House()
        house.prices([7])
        house.begins(1, 0, 0)
        self.assertEqual(house.price_list, [1])
        house.begins(3, 0, 0)
        self.assertEqual(house.price_list, [1, 1, 1])
        house.prices([7, 8, 9])
        house.begins(3, 0, 0)
        self.assertEqual(house.price_list, [1, 1, 1])
        house.prices([7, 8, 9])
        house.begins(2, 0, 0)
        self.assertEqual(house.price_list, [1, 1])


class FromState(unittest.TestCase):
    def test_first_and_wanted_are_those_told_now(self):
        calls = [begins(3, 1, 1), from_state(2, 7), GREATEST, from_state(5, 6), GREATEST]
        self.assertEqual(answered(*calls), [[0], [0], [1, 2], [0], [1, 4]])

    def test_a_fact_that_there_is_not(self):
        for n in range(1, 6):
            for wrong in (2 ** n, 2 ** n + 1, 2 ** 31, TOP):
                with self.subTest(n=n, wrong=wrong):
                    self.assertEqual(last_answer(begins(n, 0, 0), from_state(wrong, 0)), [-1])
                    self.assertEqual(last_answer(begins(n, 0, 0), from_state(0, wrong)), [-1])
                    self.assertEqual(last_answer(begins(n, 0, 0), from_state(2 ** n - 1, 2 ** n - 1)), [0])

    def test_the_acts_are_kept(self):
        calls = [begins(2, 0, 2), act(1, 0, 2, 0, 1), GREATEST, from_state(1, 2), GREATEST, IDLE]
        self.assertEqual(answered(*calls), [[0], [0], [1, 0], [0], [1, 2], [1]])

    def test_the_prices_are_kept(self):
        house = House()
        house.begins(2, 0, 0)
        house.act([0, 0, 1, 0, 4])
        house.prices([7, 8])
        self.assertEqual(house.from_state(1, 2), [0])
        self.assertEqual(inside(house), (2, 1, 2, [(0, 0, 1, 0, 4)], [7, 8]))


class ActCall(unittest.TestCase):
    def test_numbers_as_they_are_told(self):
        self.assertEqual(answered(*[IDLE] * 8), [[k] for k in range(8)])

    def test_a_refused_one_takes_no_number(self):
        self.assertEqual(answered(IDLE, act(0, 0, 0, 0, 0), IDLE), [[0], [-1], [1]])

    def test_there_are_eight(self):
        self.assertEqual(answered(*[IDLE] * 10)[8:], [[-7], [-7]])

    def test_there_are_eight_and_it_is_not_as_told_either(self):
        for wrong in (act(), act(1), act(2, 0, 0, 0, 1), act(0, 0, 0, 0, 0), act(*[TOP] * 8)):
            with self.subTest(wrong=wrong):
                self.assertEqual(last_answer(*[IDLE] * 8, wrong), [-7])
                self.assertEqual(last_answer(*[IDLE] * 7, wrong), [-1])

    def test_not_five_numbers(self):
        for length in (0, 1, 2, 3, 4, 6, 7, 8):
            with self.subTest(length=length):
                self.assertEqual(answered(act(*[1] * length), IDLE), [[-1], [0]])

    def test_a_fact_that_is_not_there(self):
        for n in range(1, 6):
            for place in range(4):
                for wrong in (2 ** n, 2 ** n + 1, 2 ** 31, TOP):
                    told = [0, 0, 0, 0, 1]
                    told[place] = wrong
                    with self.subTest(n=n, told=told):
                        self.assertEqual(answered(begins(n, 0, 0), act(*told), IDLE), [[0], [-1], [0]])

    def test_every_fact_that_is_there(self):
        for n in range(1, 6):
            for place in range(4):
                told = [0, 0, 0, 0, 1]
                told[place] = 2 ** n - 1
                with self.subTest(n=n, told=told):
                    self.assertEqual(answered(begins(n, 0, 0), act(*told)), [[0], [0]])

    def test_costs(self):
        for cost, answer in ((0, -1), (1, 0), (2, 0), (999, 0), (1000, 0), (1001, -1), (TOP, -1)):
            with self.subTest(cost=cost):
                self.assertEqual(answered(act(0, 0, 0, 0, cost)), [[answer]])

    def test_inside(self):
        house = House()
        house.begins(5, 0, 0)
        self.assertEqual(house.act([1, 2, 4, 8, 16]), [0])
        self.assertEqual(inside(house), (5, 0, 0, [(1, 2, 4, 8, 16)], [1] * 5))


class Prices(unittest.TestCase):
    def test_one_for_each_fact(self):
        for n in range(1, 6):
            for length in range(9):
                with self.subTest(n=n, length=length):
                    answer = [0] if length == n else [-1]
                    self.assertEqual(last_answer(begins(n, 0, 0), prices(*[1] * length)), answer)

    def test_each_from_one_to_a_thousand(self):
        for price, answer in ((0, -1), (1, 0), (2, 0), (999, 0), (1000, 0), (1001, -1), (TOP, -1)):
            for place in range(3):
                each = [5, 5, 5]
                each[place] = price
                with self.subTest(each=each):
                    self.assertEqual(last_answer(begins(3, 0, 0), prices(*each)), [answer])

    def test_kept_fact_by_fact_as_a_copy(self):
        house = House()
        house.begins(3, 0, 0)
        each = [1000, 1, 30]
        self.assertEqual(house.prices(each), [0])
        each[0] = 5
        self.assertEqual(house.price_list, [1000, 1, 30])

    def test_first_wanted_and_acts_are_kept(self):
        calls = [begins(2, 1, 3), act(1, 0, 2, 0, 1), prices(4, 5), GREATEST, IDLE]
        self.assertEqual(answered(*calls), [[0], [0], [0], [1, 3], [1]])


class AfterARefusal(unittest.TestCase):
    def full_house(self, acts):
        house = House()
        house.begins(3, 1, 6)
        house.prices([7, 8, 9])
        for cost in range(1, acts + 1):
            house.act([1, 0, 2, 1, cost])
        return house

    def test_all_is_as_it_was_inside(self):
        refused = (
            lambda house: house.begins(0, 0, 0),
            lambda house: house.begins(6, 0, 0),
            lambda house: house.begins(2, 4, 0),
            lambda house: house.begins(2, 0, 4),
            lambda house: house.from_state(8, 0),
            lambda house: house.from_state(0, 8),
            lambda house: house.act([]),
            lambda house: house.act([0, 0, 8, 0, 1]),
            lambda house: house.act([0, 0, 0, 0, 1001]),
            lambda house: house.prices([]),
            lambda house: house.prices([1, 1]),
            lambda house: house.prices([1, 1, 0]),
        )
        for k, call in enumerate(refused):
            with self.subTest(k=k):
                house = self.full_house(2)
                before = inside(house)
                self.assertEqual(call(house), [-1])
                self.assertEqual(inside(house), before)

    def test_all_is_as_it_was_with_eight_acts(self):
        house = self.full_house(8)
        before = inside(house)
        self.assertEqual(house.act([0, 0, 0, 0, 1]), [-7])
        self.assertEqual(inside(house), before)

    def test_all_is_as_it_was_by_the_answers(self):
        told = [begins(3, 1, 6), act(1, 0, 2, 1, 5), act(1, 0, 4, 1, 5)]
        refused = (
            begins(0, 0, 0), begins(6, 0, 0), begins(TOP, TOP, TOP), begins(2, 4, 0), begins(2, 0, 4),
            from_state(8, 0), from_state(0, 8), from_state(TOP, TOP), act(), act(0, 0, 6, 0), act(0, 0, 14, 0, 1),
            act(0, 0, 6, 0, 0), act(0, 0, 6, 0, 1001), act(0, 0, 6, 0, 1, 1), prices(), prices(1, 1, 1, 1),
            prices(1, 0, 1),
        )
        for wrong in refused:
            with self.subTest(wrong=wrong):
                given = answered(*told, wrong, GREATEST, prices(1, 1, 1), IDLE, from_state(7, 7))
                self.assertEqual(given, [[0], [0], [1], [-1], [2, 2, 4], [0], [2], [0]])


if __name__ == "__main__":
    unittest.main()

"""All ten calls mixed in one list, against the second way; and what is refused changes nothing of any answer."""

import random
import unittest

from tests.helper import (
    GREATEST, INWAY, LEAST, OTHERWISE, PLAN, SHARES, PlainHouse, act, answered, begins, from_state, joined, prices,
    some_act, some_facts, why)
from whynonedesk.house import answers

TOP = 4294967295
ASKING = [GREATEST, LEAST, OTHERWISE, INWAY, why(0), why(1), why(2), PLAN]


def some_wrong_call(drawn, n):
    wrong = drawn.choice((2 ** n, 2 ** n + 1, TOP))
    return drawn.choice((
        begins(0, 0, 0), begins(6, 0, 0), begins(n, wrong, 0), begins(n, 0, wrong), from_state(wrong, 0),
        from_state(0, wrong), act(), act(0, 0, 1, 0), act(0, 0, 0, wrong, 1), act(0, 0, 1, 0, 0),
        act(0, 0, 1, 0, 1001), act(*[1] * 8), prices(), prices(*[2] * (n + 1)), prices(*[2] * (n - 1), 0),
        prices(*[2] * (n - 1), 1001), why(8), why(TOP)))


def some_call(drawn, n, asked):
    """A call; those that ask are drawn from what is left to ask."""
    share = drawn.random()
    if share < 0.45:
        return act(*some_act(drawn, n, drawn.choice(SHARES)))
    if share < 0.55:
        return from_state(some_facts(drawn, n, 0.3), some_facts(drawn, n, 0.6))
    if share < 0.65:
        return prices(*[drawn.randint(1, 4) for _ in range(n)])
    if share < 0.75 or not asked:
        return some_wrong_call(drawn, n)
    return asked.pop()


def some_list(drawn):
    others = [drawn.choice((GREATEST, LEAST, OTHERWISE, why(drawn.randint(0, 5)), PLAN)) for _ in range(10)]
    asked = [INWAY] * 4 + others
    drawn.shuffle(asked)
    calls = []
    n = 1
    while len(calls) < 60:
        if drawn.random() < 0.08:
            n = drawn.randint(1, 5)
            calls.append(begins(n, some_facts(drawn, n, 0.3), some_facts(drawn, n, 0.6)))
        else:
            call = some_call(drawn, n, asked)
            # A call for why that is wrong asks too: it takes the place of another.
            if call[0] == 8 and call[1] >= 8:
                others = [one for one in asked if one != INWAY]
                if not others:
                    continue
                asked.remove(others[0])
            calls.append(call)
    return calls[:drawn.choice((1, 20, 60))]


class Mixed(unittest.TestCase):
    def test_many_lists(self):
        drawn = random.Random(100)
        firsts = set()
        for k in range(60):
            calls = some_list(drawn)
            before = joined(calls)
            self.assertLessEqual(len(before), 600)
            self.assertLessEqual(calls.count(INWAY), 4)
            self.assertLessEqual(sum(call[0] in (4, 5, 6, 8, 9) for call in calls), 10)
            plain = PlainHouse()
            expected = [plain.answer(call) for call in calls]
            firsts |= {(call[0], min(answer[0], 0)) for call, answer in zip(calls, expected)}
            with self.subTest(k=k):
                self.assertEqual(answered(*calls), expected)
                handed = joined(calls)
                answers(handed)
                self.assertEqual(handed, before)
        refusals = {(0, -1), (1, -1), (1, -7), (2, -1), (3, -1), (7, -3), (8, -2), (9, -6)}
        self.assertEqual(firsts, refusals | {(number, 0) for number in range(10)}, "the draw is too narrow")


class AfterARefusal(unittest.TestCase):
    NO_PLAN = [begins(4, 1, 14), prices(9, 8, 7, 6), act(1, 0, 2, 1, 5), act(1, 0, 4, 1, 6), act(8, 2, 8, 0, 7)]
    A_PLAN = [begins(4, 1, 6), prices(9, 8, 7, 6), act(1, 0, 2, 0, 5), act(1, 0, 4, 0, 6), act(2, 8, 8, 4, 7)]

    def check(self, told, wrong, refusal):
        with self.subTest(told=told, wrong=wrong):
            given = answered(*told, wrong, *ASKING)
            self.assertEqual(given[len(told)], [refusal])
            self.assertEqual(given[len(told) + 1:], answered(*told, *ASKING)[len(told):])

    def test_what_is_told_and_refused(self):
        wrong = (
            begins(0, 0, 0), begins(6, 0, 0), begins(TOP, 0, 0), begins(2, 4, 0), begins(2, 0, 4), from_state(16, 0),
            from_state(0, 16), act(), act(0, 0, 14, 0), act(0, 0, 30, 0, 1), act(0, 0, 14, 0, 0),
            act(0, 0, 14, 0, 1001), act(0, 0, 14, 0, 1, 1), prices(), prices(1, 1, 1), prices(1, 1, 1, 0),
            prices(1, 1, 1, 1, 1), prices(1001, 1, 1, 1))
        for told in (self.NO_PLAN, self.A_PLAN):
            for call in wrong:
                self.check(told, call, -1)

    def test_a_ninth_act(self):
        for told in (self.NO_PLAN, self.A_PLAN):
            self.check([*told, *[act(0, 0, 0, 0, 1)] * 5], act(0, 0, 14, 0, 1), -7)

    def test_what_is_asked_and_refused(self):
        self.check(self.NO_PLAN, PLAN, -6)
        self.check(self.A_PLAN, INWAY, -3)
        for told in (self.NO_PLAN, self.A_PLAN):
            self.check(told, why(3), -2)
            self.check(told, why(TOP), -2)

    def test_what_is_asked_and_answered(self):
        for told in (self.NO_PLAN, self.A_PLAN):
            plain = answered(*told, *ASKING)[len(told):]
            for call in ASKING:
                with self.subTest(told=told, call=call):
                    self.assertEqual(answered(*told, call, *ASKING)[len(told) + 1:], plain)


if __name__ == "__main__":
    unittest.main()

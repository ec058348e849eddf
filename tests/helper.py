"""Calls as they are laid out, lists of answers taken apart, and a slow and plain second way of working them out."""

import itertools

from whynonedesk.house import answers

GREATEST = [4]
LEAST = [5]
OTHERWISE = [6]
INWAY = [7]
PLAN = [9]


def begins(n, first, wanted):
    return [0, n, first, wanted]


def act(*told):
    return [1, len(told), *told]


def from_state(first, wanted):
    return [2, first, wanted]


def prices(*each):
    return [3, len(each), *each]


def why(k):
    return [8, k]


def joined(calls):
    return [number for call in calls for number in call]


def answered(*calls):
    """The answers, call by call; fails if the list that is given back doesn't come out even."""
    given = answers(joined(calls))
    apart = []
    place = 0
    while place < len(given):
        end = place + 1 + given[place]
        # Every answer has a first number: a lesser count would also keep this loop from ending.
        if given[place] < 1 or end > len(given):
            raise AssertionError(f"a count at place {place} is wrong: {given}")
        apart.append(given[place + 1:end])
        place = end
    if len(apart) != len(calls):
        raise AssertionError(f"{len(calls)} calls, {len(apart)} answers")
    return apart


def last_answer(*calls):
    return answered(*calls)[-1]


def asked(call, n, first, wanted, *acts):
    """What a call answers on the house that is told so."""
    return last_answer(begins(n, first, wanted), *[act(*told) for told in acts], call)


# The second way: an act is the five numbers that are told of it; nothing here is the program's own.


def has_all(state, facts):
    return all((state >> k) % 2 == 1 for k in facts)


def facts_of(number):
    return [k for k in range(5) if (number >> k) % 2 == 1]


def behind(state, told):
    """The state behind an act, fact by fact as the words tell it; None if it may not be done."""
    needs, bars, brings, takes = [facts_of(number) for number in told[:4]]
    so = facts_of(state)
    if any(k not in so for k in needs) or any(k in so for k in bars):
        return None
    return sum(1 << k for k in range(5) if k in brings or (k in so and k not in takes))


def come_to(first, acts):
    """Every state that can be come to, by trying all states until none is new."""
    there = {first}
    while True:
        more = {behind(state, told) for state in there for told in acts} - {None}
        if more <= there:
            return there
        there |= more


def sets_had(first, wanted, acts):
    """Each set of wishes, rising, and whether it can be had together."""
    there = come_to(first, acts)
    sets = [wishes for wishes in range(32) if has_all(wanted, facts_of(wishes))]
    return {wishes: any(has_all(state, facts_of(wishes)) for state in there) for wishes in sets}


def greatest_by_the_words(first, wanted, acts):
    """Each set of wishes is tried, as the words tell it, and each wish more."""
    had = sets_had(first, wanted, acts)
    ones = [wishes for wishes in had if had[wishes]
            and not any(had[wishes | (1 << k)] for k in facts_of(wanted) if k not in facts_of(wishes))]
    return [len(ones)] + ones


def least_by_the_words(first, wanted, acts):
    """Each set of wishes is tried, and each one that has a wish or more of it left out."""
    had = sets_had(first, wanted, acts)
    ones = [wishes for wishes in had if not had[wishes]
            and all(had[fewer] for fewer in had if fewer != wishes and has_all(wishes, facts_of(fewer)))]
    return [len(ones)] + ones


def every_plan(first, wanted, acts, longest):
    """Each row of at most so many acts that is a plan, with its cost before it: for very small houses."""
    for length in range(longest + 1):
        for plan in itertools.product(range(len(acts)), repeat=length):
            state = first
            for k in plan:
                state = None if state is None else behind(state, acts[k])
            if state is not None and has_all(state, facts_of(wanted)):
                yield sum(acts[k][4] for k in plan), list(plan)


def cheapest_plan(first, wanted, acts, k=None):
    """Cost and acts of the first of the cheapest plans, if k is told of those with act k; None if there's none.

    All rows of acts are gone through, length by length. Of those as long, that lead to the same state and both have
    act k or both haven't, the first of the cheapest is enough: each goes on in the same ways. A cheapest plan comes
    to no state twice with k yet to come, nor twice behind it, so what's longer than this is not needed.
    """
    longest = 2 * len(come_to(first, acts)) - 1
    rows = {(first, k is None): (0, [])}
    best = None
    for _ in range(longest + 1):
        for (state, counts), row in rows.items():
            if counts and has_all(state, facts_of(wanted)) and (best is None or row < best):
                best = row
        longer = {}
        for (state, counts), (cost, done) in rows.items():
            for number, told in enumerate(acts):
                key = (behind(state, told), counts or number == k)
                row = (cost + told[4], done + [number])
                if key[0] is not None and (key not in longer or row < longer[key]):
                    longer[key] = row
        rows = longer
    return best


def plan_by_the_words(first, wanted, acts):
    best = cheapest_plan(first, wanted, acts)
    return [-6] if best is None else [best[0], *best[1]]


def why_by_the_words(first, wanted, acts, k):
    if k not in range(len(acts)):
        return [-2]
    state = behind(first, acts[k])
    rest = None if state is None else cheapest_plan(state, wanted, acts)
    costs = [
        None if plan is None else plan[0]
        for plan in (cheapest_plan(first, wanted, acts), cheapest_plan(first, wanted, acts, k))]
    costs.append(None if rest is None else acts[k][4] + rest[0])
    return [0] + joined([0] if cost is None else [1, cost] for cost in costs)


def otherwise_by_the_words(n, first, wanted, acts, each):
    """Each set of facts, the fewer and the first of as many ahead: so the earliest of the cheapest is told."""
    told = None
    for count in range(n + 1):
        for facts in itertools.combinations(range(n), count):
            state = sum(1 << k for k in range(n) if (k in facts_of(first)) != (k in facts))
            cost = sum(each[k] for k in facts)
            if any(has_all(one, facts_of(wanted)) for one in come_to(state, acts)):
                if told is None or cost < told[0]:
                    told = [cost, *facts]
    return [-6] if told is None else told


def inway_by_the_words(n, first, wanted, acts):
    if cheapest_plan(first, wanted, acts) is not None:
        return [-3]
    found = []
    for number, (needs, bars, *rest) in enumerate(acts):
        for fact in range(n):
            if fact in facts_of(needs) or fact in facts_of(bars):
                fewer = [sum(1 << k for k in facts_of(told) if k != fact) for told in (needs, bars)]
                best = cheapest_plan(first, wanted, [*acts[:number], (*fewer, *rest), *acts[number + 1:]])
                if best is not None:
                    found.append([number, fact, best[0]])
    return [len(found)] + joined(found)


class PlainHouse:
    """All ten calls by the second way, on one house."""

    def __init__(self):
        self.n, self.first, self.wanted, self.acts, self.each = 1, 0, 0, [], [1]

    def answer(self, call):
        number, *rest = call
        where = (self.first, self.wanted, self.acts)
        if number < 4:
            return [(self.begun, self.told, self.moved, self.priced)[number](*rest)]
        if number < 6:
            return (greatest_by_the_words, least_by_the_words)[number - 4](*where)
        if number == 6:
            return otherwise_by_the_words(self.n, *where, self.each)
        if number == 7:
            return inway_by_the_words(self.n, *where)
        return why_by_the_words(*where, *rest) if number == 8 else plan_by_the_words(*where)

    def begun(self, n, first, wanted):
        if n not in range(1, 6) or max(first, wanted) >= 2 ** n:
            return -1
        self.n, self.first, self.wanted, self.acts, self.each = n, first, wanted, [], [1] * n
        return 0

    def told(self, length, *told):
        if len(self.acts) == 8:
            return -7
        if length != 5 or max(told[:4]) >= 2 ** self.n or told[4] not in range(1, 1001):
            return -1
        self.acts = [*self.acts, told]
        return len(self.acts) - 1

    def moved(self, first, wanted):
        if max(first, wanted) >= 2 ** self.n:
            return -1
        self.first, self.wanted = first, wanted
        return 0

    def priced(self, length, *each):
        if length != self.n or any(price not in range(1, 1001) for price in each):
            return -1
        self.each = list(each)
        return 0


# Houses to try both ways on.

# How likely each fact is among what an act needs, mustn't have, brings and takes away.
SHARES = (
    (0.3, 0.3, 0.3, 0.3), (0.5, 0.1, 0.2, 0.5), (0.0, 1.0, 0.4, 0.1), (0.2, 0.2, 0.3, 0.1), (0.1, 0.1, 0.2, 0.3),
    (0.3, 0.1, 0.2, 0.1), (0.2, 0.2, 0.2, 0.2))


def some_facts(drawn, n, share):
    return sum(1 << k for k in range(n) if drawn.random() < share)


def some_act(drawn, n, shares):
    # Often few costs, so that plans are as cheap as one another.
    return (*[some_facts(drawn, n, share) for share in shares], drawn.randint(1, drawn.choice((1, 3, 1000))))


def some_house(drawn):
    """How many facts, what's so at first, what's wanted, and the acts."""
    n = drawn.randint(1, 5)
    shares = drawn.choice(SHARES)
    acts = [some_act(drawn, n, shares) for _ in range(drawn.randint(0, 8))]
    return n, some_facts(drawn, n, 0.3), some_facts(drawn, n, drawn.choice((0.4, 0.8))), acts

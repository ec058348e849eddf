"""The house, the calls on it, and how lists of calls and of answers are laid out."""

from whynonedesk.plans import change_to, conditions_in_the_way, first_cheapest_plan
from whynonedesk.plans import costs_from, costs_through, costs_to
from whynonedesk.reach import Act, greatest_sets, least_sets, reached_states

BEGINS = 0
ACT = 1
FROM_STATE = 2
PRICES = 3
GREATEST = 4
LEAST = 5
OTHERWISE = 6
INWAY = 7
WHY = 8
PLAN = 9

MOST_FACTS = 5
MOST_ACTS = 8
MOST_COST = 1000
ACT_NUMBERS = 5

DONE = 0
NOT_AS_TOLD = -1
NO_SUCH_ACT = -2
THERE_IS_A_PLAN = -3
NO_PLAN = -6
ACTS_ARE_FULL = -7


class CallNotThere(Exception):
    pass


class House:
    def __init__(self):
        self.fact_count = 1
        self.first = 0
        self.wanted = 0
        self.acts = []
        self.price_list = [1]

    def begins(self, n, first, wanted):
        if n < 1 or n > MOST_FACTS or not are_fact_sets([first, wanted], n):
            return [NOT_AS_TOLD]
        self.fact_count = n
        self.first = first
        self.wanted = wanted
        self.acts = []
        self.price_list = [1] * n
        return [DONE]

    def act(self, told):
        # The document names -7 ahead of -1, so a ninth act is too many whatever it's told as.
        if len(self.acts) == MOST_ACTS:
            return [ACTS_ARE_FULL]
        if len(told) != ACT_NUMBERS or not are_fact_sets(told[:4], self.fact_count) or not is_cost(told[4]):
            return [NOT_AS_TOLD]
        self.acts.append(Act(told[0], told[1], told[2], told[3], told[4]))
        return [len(self.acts) - 1]

    def from_state(self, first, wanted):
        if not are_fact_sets([first, wanted], self.fact_count):
            return [NOT_AS_TOLD]
        self.first = first
        self.wanted = wanted
        return [DONE]

    def prices(self, each):
        if len(each) != self.fact_count or not all([is_cost(price) for price in each]):
            return [NOT_AS_TOLD]
        self.price_list = list(each)
        return [DONE]

    def greatest(self):
        sets = greatest_sets(reached_states(self.first, self.acts), self.wanted)
        return [len(sets)] + sets

    def least(self):
        sets = least_sets(reached_states(self.first, self.acts), self.wanted)
        return [len(sets)] + sets

    def otherwise(self):
        changes = [change_to(state, self.first, self.price_list) for state in self.plan_costs()]
        # To have all wishes so at first is a change with a plan: no call leads to this refusal.
        if changes == []:
            return [NO_PLAN]
        cheapest = min(changes)
        return [cheapest[0]] + cheapest[2]

    def inway(self):
        if self.first in self.plan_costs():
            return [THERE_IS_A_PLAN]
        conditions = conditions_in_the_way(self.first, self.wanted, self.acts, self.fact_count)
        answer = [len(conditions)]
        for condition in conditions:
            answer.extend(condition)
        return answer

    def why(self, k):
        if k >= len(self.acts):
            return [NO_SUCH_ACT]
        costs = self.plan_costs()
        any_plan = [costs[self.first]] if self.first in costs else []
        with_act = costs_through(self.acts[k], costs_from(self.first, self.acts, self.fact_count), costs)
        act_first = costs_through(self.acts[k], {self.first: 0}, costs)
        return [DONE] + cheapest_if_any(any_plan) + cheapest_if_any(with_act) + cheapest_if_any(act_first)

    def plan(self):
        costs = self.plan_costs()
        if self.first not in costs:
            return [NO_PLAN]
        return [costs[self.first]] + first_cheapest_plan(self.first, self.acts, costs)

    def plan_costs(self):
        return costs_to(self.wanted, self.acts, self.fact_count)


class Reader:
    def __init__(self, calls):
        self.calls = calls
        self.place = 0

    def has_more(self):
        return self.place < len(self.calls)

    def number(self):
        self.place = self.place + 1
        return self.calls[self.place - 1]

    def row(self):
        length = self.number()
        start = self.place
        self.place = start + length
        return self.calls[start:self.place]


def are_fact_sets(sets, fact_count):
    return all([(facts >> fact_count) == 0 for facts in sets])


def is_cost(number):
    return 1 <= number <= MOST_COST


def cheapest_if_any(costs):
    return [1, min(costs)] if len(costs) > 0 else [0]


def next_answer(house, reader):
    call = reader.number()
    if call == BEGINS:
        n = reader.number()
        first = reader.number()
        wanted = reader.number()
        return house.begins(n, first, wanted)
    if call == ACT:
        return house.act(reader.row())
    if call == FROM_STATE:
        first = reader.number()
        wanted = reader.number()
        return house.from_state(first, wanted)
    if call == PRICES:
        return house.prices(reader.row())
    if call == GREATEST:
        return house.greatest()
    if call == LEAST:
        return house.least()
    if call == OTHERWISE:
        return house.otherwise()
    if call == INWAY:
        return house.inway()
    if call == WHY:
        return house.why(reader.number())
    if call == PLAN:
        return house.plan()
    raise CallNotThere(f"there is no call {call}")


def answers(calls):
    house = House()
    reader = Reader(calls)
    given = []
    while reader.has_more():
        answer = next_answer(house, reader)
        given.append(len(answer))
        given.extend(answer)
    return given

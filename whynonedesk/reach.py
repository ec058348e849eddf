"""Acts, the states that can be come to by them, and the wishes that are had there."""


class Act:
    def __init__(self, needs, bars, brings, takes, cost):
        self.needs = needs
        self.bars = bars
        self.brings = brings
        self.takes = takes
        self.cost = cost

    def may_be_done(self, state):
        return has_all(state, self.needs) and (state & self.bars) == 0

    def state_behind(self, state):
        # Taking goes ahead of bringing: a fact that the act does both to is so behind it.
        return (state & ~self.takes) | self.brings

    def without_condition(self, fact):
        others = ~(1 << fact)
        return Act(self.needs & others, self.bars & others, self.brings, self.takes, self.cost)


def facts_in(facts):
    return [fact for fact in range(facts.bit_length()) if ((facts >> fact) & 1) == 1]


def has_all(state, facts):
    return (state & facts) == facts


def reached_states(first, acts):
    reached = [first]
    seen = {first: True}
    place = 0
    while place < len(reached):
        state = reached[place]
        place = place + 1
        for act in acts:
            if act.may_be_done(state):
                behind = act.state_behind(state)
                if behind not in seen:
                    seen[behind] = True
                    reached.append(behind)
    return reached


def lies_in_greater(wishes, others):
    return any([other != wishes and has_all(other, wishes) for other in others])


def greatest_sets(reached, wanted):
    # Wishes that are had together lie within those of one reached state: no other set can be greatest.
    had = sorted(set([state & wanted for state in reached]))
    return [wishes for wishes in had if not lies_in_greater(wishes, had)]


def can_be_had(wishes, reached):
    return any([has_all(state, wishes) for state in reached])


def is_least(wishes, reached):
    if can_be_had(wishes, reached):
        return False
    return all([can_be_had(wishes & ~(1 << wish), reached) for wish in facts_in(wishes)])


def least_sets(reached, wanted):
    return [wishes for wishes in range(wanted + 1) if has_all(wanted, wishes) and is_least(wishes, reached)]

"""What plans cost, the first of the cheapest, and what would make room for one."""

from whynonedesk.reach import facts_in, has_all


def all_steps(acts, fact_count):
    found = []
    for state in range(1 << fact_count):
        for act in acts:
            if act.may_be_done(state):
                found.append((state, act.state_behind(state), act.cost))
    return found


def cheapest_costs(starts, steps):
    costs = {}
    for state in starts:
        costs[state] = 0
    # Every step costs something, so no way gets cheaper by going round: this comes to an end.
    better = True
    while better:
        better = False
        for ahead, behind, cost in steps:
            if ahead in costs and (behind not in costs or costs[ahead] + cost < costs[behind]):
                costs[behind] = costs[ahead] + cost
                better = True
    return costs


def costs_from(first, acts, fact_count):
    return cheapest_costs([first], all_steps(acts, fact_count))


def costs_to(wanted, acts, fact_count):
    # A state from which there's no plan is not among the keys.
    ends = [state for state in range(1 << fact_count) if has_all(state, wanted)]
    steps = all_steps(acts, fact_count)
    return cheapest_costs(ends, [(behind, ahead, cost) for ahead, behind, cost in steps])


def costs_through(act, costs_ahead, costs_behind):
    found = []
    for state in costs_ahead:
        if act.may_be_done(state) and act.state_behind(state) in costs_behind:
            found.append(costs_ahead[state] + act.cost + costs_behind[act.state_behind(state)])
    return found


def keeps_cheapest(act, state, costs):
    return act.may_be_done(state) and costs.get(act.state_behind(state)) == costs[state] - act.cost


def first_cheapest_plan(first, acts, costs):
    # No cheapest plan is the beginning of another, so the lowest act at each place gives the first of them.
    state = first
    done = []
    while costs[state] > 0:
        lowest = min([k for k, act in enumerate(acts) if keeps_cheapest(act, state, costs)])
        done.append(lowest)
        state = acts[lowest].state_behind(state)
    return done


def change_to(state, first, price_list):
    # Laid out so that the least of such tuples is the one that's told.
    facts = facts_in(state ^ first)
    return (sum([price_list[fact] for fact in facts]), len(facts), facts)


def conditions_in_the_way(first, wanted, acts, fact_count):
    found = []
    for k, act in enumerate(acts):
        for fact in facts_in(act.needs | act.bars):
            others = acts[:k] + [act.without_condition(fact)] + acts[k + 1:]
            costs = costs_to(wanted, others, fact_count)
            if first in costs:
                found.append((k, fact, costs[first]))
    return found

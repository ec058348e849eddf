"""Calls as they are laid out in the list, and lists of answers taken apart."""

from whynonedesk.house import answers

GREATEST = [4]


def begins(n, first, wanted):
    return [0, n, first, wanted]


def act(*told):
    return [1, len(told), *told]


def from_state(first, wanted):
    return [2, first, wanted]


def prices(*each):
    return [3, len(each), *each]


def joined(calls):
    return [number for call in calls for number in call]


def answered(*calls):
    """The answers, call by call; fails if the list that is given back doesn't come out even."""
    given = answers(joined(calls))
    apart = []
    place = 0
    while place < len(given):
        end = place + 1 + given[place]
        # Every answer has a first number: a lesser count would also keep this loop from ending.
        if given[place] < 1 or end > len(given):
            raise AssertionError(f"a count at place {place} is wrong: {given}")
        apart.append(given[place + 1:end])
        place = end
    if len(apart) != len(calls):
        raise AssertionError(f"{len(calls)} calls, {len(apart)} answers")
    return apart


def last_answer(*calls):
    return answered(*calls)[-1]

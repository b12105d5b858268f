"""Needs: steps that no circuit tells apart but by its memories."""

from pistonrounds.ints import least_power
from pistonrounds.order import are_rising_numbers
from pistonrounds.rounds import between


def are_apart(sections, steps, i, j):
    """Whether two steps begin at the same places, and what follows has no move in common once it is unlike."""
    if between(sections, steps, i) != between(sections, steps, j):
        return False
    for step, other in zip(steps[i:] + steps[:i], steps[j:] + steps[:j]):
        if step != other:
            return not any(move in other for move in step)
    return False


def is_need(sections, steps, thing):
    """Whether a thing is a need of the round."""
    if not are_rising_numbers(thing, len(steps)):
        return False
    return all([are_apart(sections, steps, i, j) for at, j in enumerate(thing) for i in thing[:at]])


def need_of(sections, steps):
    """A need with the most steps."""
    needs = [()]
    for j in range(len(steps)):
        needs = needs + [need + (j,) for need in needs if is_need(sections, steps, need + (j,))]
    return max(needs, key=len)


def marks_needed(sections, steps):
    """How many memories a circuit has at least that goes the round."""
    return least_power(len(need_of(sections, steps)))

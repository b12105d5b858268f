"""Cuts of a round into groups in which no piston moves twice."""

from pistonrounds.order import are_rising_numbers
from pistonrounds.rounds import pistons_of


def is_cut(steps, thing):
    """Whether a thing is a cut of the round."""
    if not are_rising_numbers(thing, len(steps)):
        return False
    return all([no_piston_twice(group_steps(steps, thing, m)) for m in range(len(thing))])


def group_steps(steps, cut, m):
    """The steps of group m, up to the next begin, around."""
    begin = cut[m]
    following = cut[(m + 1) % len(cut)]
    around = steps[begin:] + steps[:begin]
    # A begin alone follows itself: then the group goes all the way around.
    return around[:(following - begin - 1) % len(steps) + 1]


def no_piston_twice(group):
    """Whether in the steps of a group each piston moves once at most."""
    movers = [p for step in group for p in pistons_of(step)]
    return len(set(movers)) == len(movers)


def group_of(steps, cut, i):
    """The number of the group in which step i is."""
    begun = [begin for begin in cut if begin <= i]
    # Ahead of the first begin the last group goes on.
    return (len(begun) - 1) % len(cut)


def greedy_cut(steps, b):
    """The cut whose groups, the first one from step b on, go on as long as they may."""
    begins = []
    group = []
    for i in list(range(b, len(steps))) + list(range(b)):
        if begins == [] or not no_piston_twice(group + [steps[i]]):
            begins.append(i)
            group = []
        group = group + [steps[i]]
    return tuple(sorted(begins))


def fewest_cut(steps):
    """The greedy cut with the fewest groups; of several that from the least step."""
    return min([greedy_cut(steps, b) for b in range(len(steps))], key=len)

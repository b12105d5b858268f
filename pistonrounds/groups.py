"""Circuits by groups: made of a round and a cut, with a memory for each group."""

from pistonrounds.cuts import group_of, is_cut
from pistonrounds.errors import NoCut
from pistonrounds.pilots import GO_ON, KEYS, begin_call, begin_key, pilots_of, rest_with
from pistonrounds.rounds import call_of


def group_circuit(sections, steps, cut):
    """The circuit with a memory for each group of the cut; NoCut."""
    made_cut(steps, cut)
    signals = [(("mark", m),) for m in range(len(cut))]
    memories = tuple([memory_of(sections, steps, cut, m) for m in range(len(cut))])
    return (sections, group_pilots(sections, steps, cut, signals), memories, KEYS)


def made_cut(steps, thing):
    """The thing itself, if it is a cut of the round; NoCut for anything else."""
    if not is_cut(steps, thing):
        raise NoCut("this is no cut of the round")
    return thing


def memory_of(sections, steps, cut, m):
    """The pair of lines of the memory of group m."""
    groups = len(cut)
    on = ("and", (("mark", (m - 1) % groups),) + begin_call(sections, steps, cut[m]))
    off = ("and", (("mark", (m + 1) % groups), ("not", on)))
    return (on, off)


def group_pilots(sections, steps, cut, signals):
    """The pairs of lines of all pistons, if each group has one of the signals, a tuple of lines."""
    lines = [
        ("and", signals[group_of(steps, cut, i)] + own_call(sections, steps, cut, i) + (GO_ON,))
        for i in range(len(steps))
    ]
    return pilots_of(sections, steps, lines)


def own_call(sections, steps, cut, i):
    """What calls step i within its group: nothing for a begin, which the group's signal calls already."""
    if i in cut:
        return ()
    return call_of(sections, steps, i) + begin_key(i)


def group_rest(sections, steps, cut):
    """The stand from which the circuit by groups begins; NoCut."""
    made_cut(steps, cut)
    last = group_of(steps, cut, len(steps) - 1)
    return rest_with(sections, steps, tuple([1 if m == last else 0 for m in range(len(cut))]))


def chain_cut(steps):
    """The cut with all steps as begins."""
    return tuple(range(len(steps)))

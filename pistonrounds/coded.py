"""Circuits by codes: made of a round and a cut, with fewer memories than groups."""

from pistonrounds.codes import code_marks, code_of, code_places
from pistonrounds.cuts import group_of
from pistonrounds.groups import group_pilots, made_cut
from pistonrounds.pilots import KEYS, begin_call, rest_with


def coded_circuit(sections, steps, cut):
    """The circuit with a memory for each mark of the code of the cut's groups; NoCut."""
    made_cut(steps, cut)
    groups = len(cut)
    signals = [signal_of(groups, m) for m in range(groups)]
    memories = tuple([
        (changed_by(sections, steps, cut, (j, 1)), changed_by(sections, steps, cut, (j, 0)))
        for j in range(code_marks(groups))
    ])
    return (sections, group_pilots(sections, steps, cut, signals), memories, KEYS)


def signal_of(groups, place):
    """The lines that are all on in this place of the code alone."""
    return tuple([
        ("mark", j) if mark == 1 else ("not", ("mark", j)) for j, mark in enumerate(code_of(groups, place))
    ])


def changed_by(sections, steps, cut, change):
    """The line that is on wherever the code has to go on by this change, a mark and what it changes to."""
    groups = len(cut)
    return ("or", tuple([
        ("and", signal_of(groups, place) + call_behind(sections, steps, cut, place))
        for place in range(code_places(groups)) if change_behind(groups, place) == change
    ]))


def change_behind(groups, place):
    """The mark that changes from a place of the code to the next one, around, and what it changes to."""
    marks = code_of(groups, place)
    following = code_of(groups, (place + 1) % code_places(groups))
    return [(j, new) for j, new in enumerate(following) if new != marks[j]][0]


def call_behind(sections, steps, cut, place):
    """What calls the group behind a place of the code; nothing behind the pass, where it was called already."""
    groups = len(cut)
    if place == groups:
        return ()
    return begin_call(sections, steps, cut[(place + 1) % groups])


def coded_rest(sections, steps, cut):
    """The stand from which the circuit by codes begins; NoCut."""
    made_cut(steps, cut)
    return rest_with(sections, steps, code_of(len(cut), group_of(steps, cut, len(steps) - 1)))

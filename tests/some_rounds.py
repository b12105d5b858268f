"""Rounds that several tests use."""

import itertools

from pistonrounds.answering import settled
from pistonrounds.circuits import made_circuit
from pistonrounds.cuts import is_cut
from pistonrounds.errors import Restless
from pistonrounds.events import after, events_of
from pistonrounds.groups import chain_cut, group_circuit, group_rest
from pistonrounds.rows import is_right, next_row
from tests.things import OFF, ON, blinker


def steps_of(text):
    """The steps of a round as it is written: a+ b+ a-c+ b-c-."""
    return tuple(
        tuple(("abcdef".index(letter), "-+".index(sign)) for letter, sign in zip(word[0::2], word[1::2]))
        for word in text.split()
    )


# Piston 3 has no move.
SECTIONS = (1, 3, 2, 4)
STEPS = steps_of("a+ b+ a-c+ b-c-")
# Each piston's first move is in: so ahead of step 0 all lies around.
OUT_SECTIONS = (2, 1, 4)
OUT_STEPS = steps_of("a- b-c- a+ a- c+ a+b+")
# A piston that goes by itself; while it is between its ends and key 0 is 1, no stand is settled.
ALONE = steps_of("a+ a-")
BETWEEN = ("not", ("or", (("cam", 0, 0), ("cam", 0, 1))))
BLINKING = ((1,), ((("cam", 0, 0), ("cam", 0, 1)),), (blinker(("and", (("key", 0), BETWEEN))),), 1)
BLINKING_REST = ((0,), (1,), (0,), (0,))
# Like BLINKING, but its memory stays.
STILL = ((1,), BLINKING[1], ((OFF, OFF),), 1)


def walked(sections, steps):
    """The places ahead of each step and behind the last one, by walking twice around."""
    places = [0] * len(sections)
    rows = []
    for step in steps + steps:
        rows.append(tuple(places))
        for p, side in step:
            places[p] = 2 * sections[p] * side
    rows.append(tuple(places))
    return rows[len(steps):]


def small_rounds():
    """All rounds of two pistons and 2 to 4 steps, by trying all steps."""
    moves = [(p, side) for p in (0, 1) for side in (0, 1)]
    steps = [(move,) for move in moves] + [((0, first), (1, second)) for first in (0, 1) for second in (0, 1)]
    found = []
    for many in (2, 3, 4):
        for thing in itertools.product(steps, repeat=many):
            if is_small_round(thing):
                found.append(thing)
    return found


def is_small_round(thing):
    for p in (0, 1):
        sides = "".join(str(side) for step in thing for mover, side in step if mover == p)
        if "11" in sides * 2 or "00" in sides * 2:
            return False
    return True


def some_rounds():
    """Pairs of sections and a round: of several pistons, with steps of several moves, with and without clashes."""
    return [
        (SECTIONS, STEPS),
        (OUT_SECTIONS, OUT_STEPS),
        ((1,), steps_of("a+ a-")),
        ((3,), steps_of("a- a+")),
        ((1, 1), steps_of("a+ b+ a- b-")),
        ((1, 2), steps_of("a+ b+ b- a-")),
        ((2, 1), steps_of("a+ a- b+ b-")),
        ((2, 1), steps_of("a+b+ a-b-")),
        ((1, 1, 1), steps_of("a+b+c+ a- b- c-")),
        ((1, 1, 1), steps_of("a+b- b+c+ a-c-")),
        ((1, 1, 1), steps_of("a+ b+ c+ c- b- a-")),
        ((1, 1, 1), steps_of("a+ a- a+ a- b+ b- c+ c-")),
        ((1, 1, 1, 1), steps_of("a+ b+c+ a- b-d+ c- d-")),
        ((1, 1, 1, 1, 1, 1), steps_of("a+ b+ c+ d+ e+ f+ a- b- c- d- e- f-")),
        ((1, 1, 1, 1, 1, 1), steps_of("a+ a- b+ b- c+ c- d+ d- e+ e- f+ f-")),
    ]


def cuts_of(steps):
    """All cuts of the round, by trying all tuples."""
    numbers = range(len(steps))
    tuples = [thing for many in range(1, len(steps) + 1) for thing in itertools.combinations(numbers, many)]
    return [thing for thing in tuples if is_cut(steps, thing)]


def rows_from(circuit, steps, stand):
    """All rows that come from the stand and 0, rising, if the circuit goes the round from there; else None."""
    rows = {(stand, 0): True}
    waiting = [(stand, 0)]
    while waiting:
        row = waiting.pop()
        if not is_right(circuit, steps, row):
            return None
        for event in events_of(circuit, row[0]):
            try:
                behind = next_row(circuit, steps, row, event)
            except Restless:
                return None
            if behind not in rows:
                rows[behind] = True
                waiting.append(behind)
    return tuple(sorted(rows))


def stand_behind(circuit, stand, event):
    try:
        return after(circuit, stand, event)
    except Restless:
        return None


def pairs_from(one, stand, other, beside):
    """All pairs of stands that come from the two, rising; events that are Restless in both lead to none."""
    pairs = {(stand, beside): True}
    waiting = [(stand, beside)]
    while waiting:
        first, second = waiting.pop()
        for event in events_of(one, first):
            pair = (stand_behind(one, first, event), stand_behind(other, second, event))
            if pair not in pairs and pair != (None, None):
                pairs[pair] = True
                waiting.append(pair)
    return tuple(sorted(pairs))


def without_keys(thing):
    """The lines within a nested tuple with each key's line always on."""
    if not isinstance(thing, tuple):
        return thing
    if thing[:1] == ("key",):
        return ON
    return tuple(without_keys(part) for part in thing)


def just_1000():
    """A circuit with one key that nothing hangs on, a round and a stand from which 1000 right rows come."""
    sections, steps = (1, 1, 3, 1), steps_of("a+c+d- a-b-c-d+ a+c+d- a-b+c-d+")
    sections, pilots, memories, _ = group_circuit(sections, steps, chain_cut(steps))
    circuit = made_circuit((sections, without_keys(pilots), without_keys(memories), 1))
    places, valves, marks, _ = group_rest(sections, steps, chain_cut(steps))
    return circuit, steps, settled(circuit, (places, valves, marks, (0,)))


def just_1001():
    """A circuit, a round and a stand from which 1001 right rows come."""
    sections, steps = (4, 3), steps_of("a+b- a-b+ a+b- a-b+")
    return group_circuit(sections, steps, chain_cut(steps)), steps, group_rest(sections, steps, chain_cut(steps))

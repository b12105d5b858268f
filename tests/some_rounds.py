"""Rounds that several tests use."""

import itertools

from pistonrounds.errors import Restless
from pistonrounds.events import events_of
from pistonrounds.rows import is_right, next_row
from tests.things import blinker


def steps_of(text):
    """The steps of a round as it is written: a+ b+ a-c+ b-c-."""
    return tuple(
        tuple(("abcdef".index(letter), "-+".index(sign)) for letter, sign in zip(word[0::2], word[1::2]))
        for word in text.split()
    )


# Piston 3 has no move.
SECTIONS = (1, 3, 2, 4)
STEPS = steps_of("a+ b+ a-c+ b-c-")
# Each piston's first move is in: so ahead of step 0 all lies around.
OUT_SECTIONS = (2, 1, 4)
OUT_STEPS = steps_of("a- b-c- a+ a- c+ a+b+")
# A piston that goes by itself; while it is between its ends and key 0 is 1, no stand is settled.
ALONE = steps_of("a+ a-")
BETWEEN = ("not", ("or", (("cam", 0, 0), ("cam", 0, 1))))
BLINKING = ((1,), ((("cam", 0, 0), ("cam", 0, 1)),), (blinker(("and", (("key", 0), BETWEEN))),), 1)
BLINKING_REST = ((0,), (1,), (0,), (0,))


def walked(sections, steps):
    """The places ahead of each step and behind the last one, by walking twice around."""
    places = [0] * len(sections)
    rows = []
    for step in steps + steps:
        rows.append(tuple(places))
        for p, side in step:
            places[p] = 2 * sections[p] * side
    rows.append(tuple(places))
    return rows[len(steps):]


def small_rounds():
    """All rounds of two pistons and 2 to 4 steps, by trying all steps."""
    moves = [(p, side) for p in (0, 1) for side in (0, 1)]
    steps = [(move,) for move in moves] + [((0, first), (1, second)) for first in (0, 1) for second in (0, 1)]
    found = []
    for many in (2, 3, 4):
        for thing in itertools.product(steps, repeat=many):
            if is_small_round(thing):
                found.append(thing)
    return found


def is_small_round(thing):
    for p in (0, 1):
        sides = "".join(str(side) for step in thing for mover, side in step if mover == p)
        if "11" in sides * 2 or "00" in sides * 2:
            return False
    return True


def some_rounds():
    """Pairs of sections and a round: of several pistons, with steps of several moves, with and without clashes."""
    return [
        (SECTIONS, STEPS),
        (OUT_SECTIONS, OUT_STEPS),
        ((1,), steps_of("a+ a-")),
        ((3,), steps_of("a- a+")),
        ((1, 1), steps_of("a+ b+ a- b-")),
        ((1, 2), steps_of("a+ b+ b- a-")),
        ((2, 1), steps_of("a+ a- b+ b-")),
        ((2, 1), steps_of("a+b+ a-b-")),
        ((1, 1, 1), steps_of("a+b+c+ a- b- c-")),
        ((1, 1, 1), steps_of("a+b- b+c+ a-c-")),
        ((1, 1, 1), steps_of("a+ b+ c+ c- b- a-")),
        ((1, 1, 1), steps_of("a+ a- a+ a- b+ b- c+ c-")),
        ((1, 1, 1, 1), steps_of("a+ b+c+ a- b-d+ c- d-")),
        ((1, 1, 1, 1, 1, 1), steps_of("a+ b+ c+ d+ e+ f+ a- b- c- d- e- f-")),
        ((1, 1, 1, 1, 1, 1), steps_of("a+ a- b+ b- c+ c- d+ d- e+ e- f+ f-")),
    ]


def rows_from(circuit, steps, stand):
    """All rows that come from the stand and 0, rising, if the circuit goes the round from there; else None."""
    rows = {(stand, 0): True}
    waiting = [(stand, 0)]
    while waiting:
        row = waiting.pop()
        if not is_right(circuit, steps, row):
            return None
        for event in events_of(circuit, row[0]):
            try:
                behind = next_row(circuit, steps, row, event)
            except Restless:
                return None
            if behind not in rows:
                rows[behind] = True
                waiting.append(behind)
    return tuple(sorted(rows))

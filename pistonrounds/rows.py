"""Rows: a stand and the step that is under way in it."""

from pistonrounds.answering import is_settled
from pistonrounds.events import after, can_go
from pistonrounds.ints import is_within
from pistonrounds.rounds import between, due_ends
from pistonrounds.stands import is_stand


def is_row(circuit, steps, thing):
    """Whether a thing is a row of the circuit and the round."""
    if not isinstance(thing, tuple) or len(thing) != 2:
        return False
    stand, i = thing
    if not is_stand(circuit, stand) or not is_within(i, 0, len(steps) - 1):
        return False
    return is_settled(circuit, stand) and is_under_way(circuit[0], steps, i, stand[0])


def is_under_way(sections, steps, i, places):
    """Whether all pistons are where they may be in step i, and not all of them are at their due ends."""
    # A piston that doesn't move is due where it is ahead of the step: so it has no other place between.
    ahead = between(sections, steps, i)
    due = due_ends(sections, steps, i)
    if places == due:
        return False
    return all([min(here, there) <= place <= max(here, there) for place, here, there in zip(places, ahead, due)])


def is_right(circuit, steps, thing):
    """Whether a thing is a right row: what can go moves in its step, and it waits for nothing but a key."""
    if not is_row(circuit, steps, thing):
        return False
    stand, i = thing
    going = can_go(circuit, stand)
    if not all(move in steps[i] for move in going):
        return False
    return len(going) > 0 or 0 in stand[3]


def next_row(circuit, steps, row, event):
    """The pair behind an event from a right row; Restless."""
    stand, i = row
    behind = after(circuit, stand, event)
    if behind[0] == due_ends(circuit[0], steps, i):
        return (behind, (i + 1) % len(steps))
    return (behind, i)

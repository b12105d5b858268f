"""Rounds: steps of moves, over and over."""

from pistonrounds.errors import NoRound
from pistonrounds.ints import is_within
from pistonrounds.order import is_rising
from pistonrounds.pistons import end_cam, end_place

LEAST_STEPS = 2
MOST_STEPS = 12


def made_round(sections, thing):
    """The thing itself, if it is a round of the sections; NoRound for anything else."""
    if not is_round(sections, thing):
        raise NoRound("this is no round of the sections")
    return thing


def is_round(sections, thing):
    """Whether a thing is a round of the sections."""
    if not isinstance(thing, tuple) or not LEAST_STEPS <= len(thing) <= MOST_STEPS:
        return False
    if not all(is_step(sections, step) for step in thing):
        return False
    return all([is_by_turns(sides_of(thing, p)) for p in range(len(sections))])


def is_step(sections, thing):
    """Whether a thing is a step of pistons with these sections."""
    if not isinstance(thing, tuple) or len(thing) == 0:
        return False
    if not all(is_move(sections, move) for move in thing):
        return False
    return is_rising(pistons_of(thing))


def is_move(sections, thing):
    """Whether a thing is a move of a piston with these sections."""
    if not isinstance(thing, tuple) or len(thing) != 2:
        return False
    return is_within(thing[0], 0, len(sections) - 1) and is_within(thing[1], 0, 1)


def pistons_of(step):
    """The pistons that move in a step."""
    return [p for p, side in step]


def sides_of(steps, p):
    """The sides of the moves of a piston, step after step."""
    return [side for step in steps for mover, side in step if mover == p]


def is_by_turns(sides):
    """Whether no two sides that follow one another, around, are the same."""
    return all([side != sides[at - 1] for at, side in enumerate(sides)])


def between(sections, steps, i):
    """The places of all pistons ahead of step i."""
    return tuple([place_ahead(sections, steps, i, p) for p in range(len(sections))])


def place_ahead(sections, steps, i, p):
    """The place of one piston ahead of step i."""
    # The moves from step i on lie ahead of it, too, the way around, but further back.
    sides = sides_of(steps[i:] + steps[:i], p)
    return end_place(sections, p, sides[-1]) if sides else 0


def call_of(sections, steps, i):
    """The lines that tell that the step ahead of step i has come."""
    return tuple(("cam", p, end_cam(sections, p, side)) for p, side in steps[i - 1])


def due_end(sections, steps, i, p):
    """The place at which a piston is due in step i."""
    sides = sides_of(steps[i:i + 1], p)
    return end_place(sections, p, sides[0]) if sides else place_ahead(sections, steps, i, p)


def due_ends(sections, steps, i):
    """The places at which all pistons are due in step i."""
    return tuple([due_end(sections, steps, i, p) for p in range(len(sections))])

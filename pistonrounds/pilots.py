"""What the circuits made of a round have in common: their keys, their pilots and their rest."""

from pistonrounds.pistons import end_place
from pistonrounds.rounds import between, call_of

KEYS = 2
GO_ON = ("key", 0)
BEGIN = ("key", 1)


def begin_key(i):
    """The key that lets step 0 begin, for step 0 alone."""
    return (BEGIN,) if i == 0 else ()


def begin_call(sections, steps, i):
    """What lets step i begin: its call and its keys."""
    return call_of(sections, steps, i) + (GO_ON,) + begin_key(i)


def pilots_of(sections, steps, signals):
    """The pairs of lines of all pistons, if each step has one of the signals."""
    return tuple([
        (sent_by(steps, signals, (p, 1)), sent_by(steps, signals, (p, 0))) for p in range(len(sections))
    ])


def sent_by(steps, signals, move):
    """The line that is on with the signal of each step that has this move."""
    return ("or", tuple([signal for step, signal in zip(steps, signals) if move in step]))


def rest_with(sections, steps, marks):
    """The stand ahead of step 0 with these marks, the valves as the pistons are, all keys 0."""
    places = between(sections, steps, 0)
    valves = tuple([1 if place == end_place(sections, p, 1) else 0 for p, place in enumerate(places)])
    return (places, valves, marks, (0,) * KEYS)

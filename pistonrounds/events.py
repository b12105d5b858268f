"""Events: a piston goes one place, or a key is turned."""

from pistonrounds.answering import settled
from pistonrounds.errors import NoEvent, Restless
from pistonrounds.ints import is_int
from pistonrounds.pistons import end_place


def can_go(circuit, stand):
    """The pairs (piston, side) of all pistons that can go, rising."""
    sections = circuit[0]
    places = stand[0]
    return tuple([(p, side) for p, side in enumerate(stand[1]) if places[p] != end_place(sections, p, side)])


def events_of(circuit, stand):
    """All events in a stand, rising."""
    goes = [("go", p) for p, side in can_go(circuit, stand)]
    turns = [("turn", k) for k in range(circuit[3])]
    return tuple(goes + turns)


def is_event(circuit, stand, thing):
    """Whether a thing is an event in the stand."""
    if not isinstance(thing, tuple) or len(thing) != 2:
        return False
    word, number = thing
    # True is equal to 1, so it has to be kept out ahead of the look among the events.
    if not isinstance(word, str) or not is_int(number):
        return False
    return thing in events_of(circuit, stand)


def after(circuit, stand, event):
    """The settled stand behind an event; NoEvent if it is none here, Restless if no stand is settled."""
    if not is_event(circuit, stand, event):
        raise NoEvent(0)
    return settled(circuit, done(stand, event))


def stand_behind(circuit, stand, event):
    """The stand behind an event, or None if the event is Restless."""
    try:
        return after(circuit, stand, event)
    except Restless:
        return None


def done(stand, event):
    """The stand in which just the event itself is done, nothing having answered yet."""
    word, number = event
    places, valves, marks, keys = stand
    if word == "turn":
        return (places, valves, marks, changed(keys, number, 1 - keys[number]))
    further = 1 if valves[number] == 1 else -1
    return (changed(places, number, places[number] + further), valves, marks, keys)


def changed(things, at, new):
    """The tuple of things with a new one at one place."""
    return things[:at] + (new,) + things[at + 1:]

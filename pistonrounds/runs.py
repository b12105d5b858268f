"""Runs: events one behind another."""

from pistonrounds.errors import NoEvent, Restless
from pistonrounds.events import after

MOST_EVENTS = 1200


def run(circuit, stand, events):
    """The first stand and that behind each event; NoEvent or Restless, whichever comes first."""
    if not isinstance(events, tuple) or len(events) > MOST_EVENTS:
        raise NoEvent(0)
    stands = [stand]
    for at, event in enumerate(events):
        stands.append(after_numbered(circuit, stands[-1], event, at))
    return tuple(stands)


def after_numbered(circuit, stand, event, at):
    """The stand behind an event; what is refused has the event's number at."""
    try:
        return after(circuit, stand, event)
    except NoEvent:
        raise NoEvent(at) from None
    except Restless:
        raise Restless(at) from None

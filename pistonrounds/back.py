"""Reading back: which round a circuit goes from a stand on, keys as they are."""

from pistonrounds.events import can_go, stand_behind
from pistonrounds.pistons import end_place
from pistonrounds.rounds import MOST_STEPS, is_round


def read_back(circuit, stand):
    """The round that is gone from a settled stand on until this comes back, or None."""
    steps = []
    here = stand
    while len(steps) < MOST_STEPS:
        step = can_go(circuit, here)
        here = stand_behind_step(circuit, here, step)
        if here is None:
            return None
        steps.append(step)
        if here == stand:
            return tuple(steps) if is_round(circuit[0], tuple(steps)) else None
    return None


def stand_behind_step(circuit, stand, step):
    """The stand in which all moves of a step are done, least pistons first; None if they aren't gone so."""
    if step == ():
        return None
    here = stand
    coming = step
    while coming != ():
        if can_go(circuit, here) != coming:
            return None
        here = stand_behind(circuit, here, ("go", coming[0][0]))
        if here is None:
            return None
        coming = still_coming(circuit[0], here[0], step)
    return here


def still_coming(sections, places, step):
    """The moves of a step whose pistons aren't yet at the ends to which they were sent."""
    return tuple([(p, side) for p, side in step if places[p] != end_place(sections, p, side)])

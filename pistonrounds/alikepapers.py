"""Papers that two circuits are alike for ever, and papers of where they part."""

from pistonrounds.answering import is_settled
from pistonrounds.events import can_go, events_of, is_event, stand_behind
from pistonrounds.order import is_rising
from pistonrounds.papers import is_paper, is_run_paper
from pistonrounds.stands import is_stand


def look_alike(one, stand, other, beside):
    """Whether the stands of two circuits have the same places and keys, and the same can go in them."""
    if stand[0] != beside[0] or stand[3] != beside[3]:
        return False
    return can_go(one, stand) == can_go(other, beside)


def are_alike(one, other, thing):
    """Whether a thing is a pair of settled stands of the two circuits that look alike."""
    if not isinstance(thing, tuple) or len(thing) != 2:
        return False
    stand, beside = thing
    if not is_stand(one, stand) or not is_stand(other, beside):
        return False
    return is_settled(one, stand) and is_settled(other, beside) and look_alike(one, stand, other, beside)


def pair_behind(one, other, pair, event):
    """The pair behind an event that is done in both, None standing where it is Restless."""
    return (stand_behind(one, pair[0], event), stand_behind(other, pair[1], event))


def alike_by(one, stand, other, beside, paper):
    """Whether a thing is a paper that the two circuits are alike for ever from their settled stands."""
    if not is_paper("alike", paper):
        return False
    pairs = paper[1]
    if not all(are_alike(one, other, pair) for pair in pairs) or not is_rising(pairs):
        return False
    known = set(pairs)
    if (stand, beside) not in known:
        return False
    for pair in pairs:
        for event in events_of(one, pair[0]):
            behind = pair_behind(one, other, pair, event)
            if behind != (None, None) and behind not in known:
                return False
    return True


def apart_by(one, stand, other, beside, paper):
    """Whether a thing is a paper of where the two circuits part, from their settled stands on."""
    if not is_run_paper("apart", paper):
        return False
    pair = (stand, beside)
    for event in paper[1]:
        if not are_alike(one, other, pair) or not is_event(one, pair[0], event):
            return False
        pair = pair_behind(one, other, pair, event)
    # Behind an event that is Restless in just one there is no pair of stands: none that look alike.
    return pair != (None, None) and not are_alike(one, other, pair)

"""Pairs of stands of two circuits, gone through to write a paper of them."""

from pistonrounds.alikepapers import are_alike, pair_behind
from pistonrounds.errors import TooGreat
from pistonrounds.events import events_of
from pistonrounds.ways import Ways

MOST_PAIRS = 1000


def compare(one, stand, other, beside):
    """A paper that the two circuits are alike for ever from their settled stands, or where they part; TooGreat."""
    ways = Ways((stand, beside))
    at = 0
    while at < len(ways.found):
        pair = ways.found[at]
        # Where an event is Restless in just one, None stands in the pair: so this looks alike in no way.
        if not are_alike(one, other, pair):
            return ("apart", ways.events_to(pair))
        if at == MOST_PAIRS:
            raise TooGreat("more pairs come than are gone through")
        for event in events_of(one, pair[0]):
            behind = pair_behind(one, other, pair, event)
            if behind != (None, None):
                ways.lead(pair, event, behind)
        at += 1
    return ("alike", tuple(sorted(ways.found)))

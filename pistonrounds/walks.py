"""Walks through all rows that come from a stand, to write a paper of them."""

from pistonrounds.errors import TooGreat
from pistonrounds.events import events_of
from pistonrounds.goingpapers import row_behind
from pistonrounds.rows import is_right
from pistonrounds.ways import Ways

MOST_ROWS = 1000


def walk(circuit, steps, stand):
    """A paper that the circuit goes the round from the settled stand, or one that it doesn't; TooGreat."""
    ways = Ways((stand, 0))
    at = 0
    while at < len(ways.found):
        row = ways.found[at]
        # Behind a Restless event None was found, which is no right row either.
        if not is_right(circuit, steps, row):
            return ("wrong", ways.events_to(row))
        if at == MOST_ROWS:
            raise TooGreat("more right rows come than are walked through")
        for event in events_of(circuit, row[0]):
            ways.lead(row, event, row_behind(circuit, steps, row, event))
        at += 1
    return ("goes", tuple(sorted(ways.found)))

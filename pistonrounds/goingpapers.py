"""Papers that a circuit goes its round, and papers that it doesn't."""

from pistonrounds.errors import Restless
from pistonrounds.events import events_of, is_event
from pistonrounds.order import is_rising
from pistonrounds.papers import is_paper, is_run_paper
from pistonrounds.rows import is_right, next_row


def goes_by(circuit, steps, stand, paper):
    """Whether a thing is a paper that the circuit goes the round from the settled stand."""
    if not is_paper("goes", paper):
        return False
    rows = paper[1]
    if not all(is_right(circuit, steps, row) for row in rows) or not is_rising(rows):
        return False
    known = set(rows)
    if (stand, 0) not in known:
        return False
    for row in rows:
        for event in events_of(circuit, row[0]):
            if row_behind(circuit, steps, row, event) not in known:
                return False
    return True


def row_behind(circuit, steps, row, event):
    """The pair behind an event from a right row, or None if the event is Restless."""
    try:
        return next_row(circuit, steps, row, event)
    except Restless:
        return None


def wrong_by(circuit, steps, stand, paper):
    """Whether a thing is a paper that the circuit doesn't go the round from the settled stand."""
    if not is_run_paper("wrong", paper):
        return False
    row = (stand, 0)
    for event in paper[1]:
        if not is_right(circuit, steps, row) or not is_event(circuit, row[0], event):
            return False
        row = row_behind(circuit, steps, row, event)
    # Behind a Restless event there is no pair, hence no right row either.
    return not is_right(circuit, steps, row)

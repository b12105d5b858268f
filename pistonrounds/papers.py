"""What papers of all kinds have in common."""

from pistonrounds.runs import MOST_EVENTS


def is_paper(word, thing):
    """Whether a thing is a pair of the word and a tuple of whatever."""
    if not isinstance(thing, tuple) or len(thing) != 2:
        return False
    # What isn't a text is not compared: it may be of any kind.
    return isinstance(thing[0], str) and thing[0] == word and isinstance(thing[1], tuple)


def is_run_paper(word, thing):
    """Whether a thing is a pair of the word and a tuple of whatever, not longer than a run."""
    return is_paper(word, thing) and len(thing[1]) <= MOST_EVENTS

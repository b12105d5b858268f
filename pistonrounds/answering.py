"""How valves and memories answer at once, until nothing changes any more."""

from pistonrounds.errors import Restless
from pistonrounds.stands import is_on

MOST_STANDS = 65


def answer(circuit, stand):
    """The stand to which all valves and memories go at once."""
    places, valves, marks, keys = stand
    return (places, pushed(circuit, stand, circuit[1], valves), pushed(circuit, stand, circuit[2], marks), keys)


def pushed(circuit, stand, pairs, sides):
    """The sides of valves or memories behind the push of their pairs of lines."""
    return tuple([pushed_side(circuit, stand, pair, side) for pair, side in zip(pairs, sides)])


def pushed_side(circuit, stand, pair, side):
    """1 or 0, if just the first or the second line of a pair is on; else the side as it was."""
    first = is_on(circuit, stand, pair[0])
    if first == is_on(circuit, stand, pair[1]):
        return side
    return 1 if first else 0


def is_settled(circuit, stand):
    """Whether a stand is its own answer."""
    return answer(circuit, stand) == stand


def answers(circuit, stand):
    """The stands from the given one up to the first settled one; Restless if these would be too many."""
    stands = [stand]
    following = answer(circuit, stand)
    while following != stands[-1]:
        if len(stands) == MOST_STANDS:
            raise Restless(0)
        stands.append(following)
        following = answer(circuit, following)
    return tuple(stands)


def settled(circuit, stand):
    """The settled stand to which a stand comes by its answers; Restless if to none."""
    return answers(circuit, stand)[-1]

"""Codes: marks for the groups of a cut, of which just one changes from each place to the next."""

from pistonrounds.ints import least_power


def code_places(groups):
    """How many places the code of so many groups has: an even number, with the pass where this is one more."""
    return groups + groups % 2


def code_marks(groups):
    """How many marks the code of so many groups has."""
    return least_power(code_places(groups))


def code_of(groups, place):
    """The marks of a place, mark 0 first."""
    places = code_places(groups)
    is_back = 1 if place >= places // 2 else 0
    # The second half goes the first one's way back, so that it ends beside the begin.
    number = places - 1 - place if is_back == 1 else place
    return tuple([figures_unlike(number, j) for j in range(code_marks(groups) - 1)]) + (is_back,)


def figures_unlike(number, j):
    """1 if the figures j and j + 1 of a number, written to the base 2, are unlike, else 0."""
    return 1 if (number >> j) % 2 != (number >> (j + 1)) % 2 else 0

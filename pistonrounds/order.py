"""What rising means."""

from pistonrounds.ints import is_within


def is_rising(things):
    """Whether each of the things, which can be compared, is less than the next one."""
    return all([thing < following for thing, following in zip(things, things[1:])])


def are_rising_numbers(thing, many):
    """Whether a thing is a tuple of one int or more, from 0 on, below many, rising."""
    if not isinstance(thing, tuple) or len(thing) == 0:
        return False
    return all(is_within(part, 0, many - 1) for part in thing) and is_rising(thing)

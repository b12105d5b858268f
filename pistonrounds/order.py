"""What rising means."""


def is_rising(things):
    """Whether each of the things, which can be compared, is less than the next one."""
    return all([thing < following for thing, following in zip(things, things[1:])])

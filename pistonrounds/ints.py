"""What an int is here."""


def is_int(thing):
    """Whether a thing is an int; to Python True and False are ints, here they are none."""
    return isinstance(thing, int) and not isinstance(thing, bool)


def is_within(thing, least, greatest):
    """Whether a thing is an int from least to greatest."""
    return is_int(thing) and least <= thing <= greatest


def least_power(many):
    """The least n such that 2 to the power n is at least so many."""
    return (many - 1).bit_length()

"""Plain circuits: made of a round, without memories."""

from pistonrounds.pilots import KEYS, begin_call, pilots_of, rest_with


def plain_circuit(sections, steps):
    """The circuit in which each step begins with its call."""
    signals = [("and", begin_call(sections, steps, i)) for i in range(len(steps))]
    return (sections, pilots_of(sections, steps, signals), (), KEYS)


def plain_rest(sections, steps):
    """The stand from which the plain circuit begins."""
    return rest_with(sections, steps, ())

"""Plain circuits: made of a round, without memories."""

from pistonrounds.pilots import GO_ON, KEYS, begin_key, pilots_of, rest_with
from pistonrounds.rounds import call_of


def plain_circuit(sections, steps):
    """The circuit in which each step begins with its call."""
    signals = [
        ("and", call_of(sections, steps, i) + (GO_ON,) + begin_key(i)) for i in range(len(steps))
    ]
    return (sections, pilots_of(sections, steps, signals), (), KEYS)


def plain_rest(sections, steps):
    """The stand from which the plain circuit begins."""
    return rest_with(sections, steps, ())

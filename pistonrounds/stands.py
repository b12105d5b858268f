"""Stands of a circuit, and which lines are on in them."""

from pistonrounds.errors import NoStand
from pistonrounds.ints import is_within
from pistonrounds.pistons import end_place, is_pressed


def made_stand(circuit, thing):
    """The thing itself, if it is a stand of the circuit; NoStand for anything else."""
    if not is_stand(circuit, thing):
        raise NoStand("this is no stand of the circuit")
    return thing


def is_stand(circuit, thing):
    """Whether a thing is a stand of the circuit."""
    if not isinstance(thing, tuple) or len(thing) != 4:
        return False
    sections, pilots, memories, keys = circuit
    ends = [end_place(sections, p, 1) for p in range(len(sections))]
    greatest = (ends, [1] * len(pilots), [1] * len(memories), [1] * keys)
    return all([are_up_to(part, most) for part, most in zip(thing, greatest)])


def are_up_to(thing, greatest):
    """Whether a thing is a tuple of ints from 0, one up to each of the greatest."""
    if not isinstance(thing, tuple) or len(thing) != len(greatest):
        return False
    return all([is_within(part, 0, most) for part, most in zip(thing, greatest)])


def is_on(circuit, stand, line):
    """Whether a line is on in a stand of the circuit."""
    places, valves, marks, keys = stand
    word = line[0]
    if word == "cam":
        return is_pressed(places, line)
    if word == "mark":
        return marks[line[1]] == 1
    if word == "key":
        return keys[line[1]] == 1
    if word == "not":
        return not is_on(circuit, stand, line[1])
    if word == "and":
        return all(is_on(circuit, stand, part) for part in line[1])
    return any(is_on(circuit, stand, part) for part in line[1])

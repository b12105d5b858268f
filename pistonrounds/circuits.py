"""Circuits: pistons with their valves, memories and keys."""

from pistonrounds.errors import NoCircuit
from pistonrounds.ints import is_within
from pistonrounds.lines import are_lines, lines_within

MOST_PISTONS = 6
MOST_SECTIONS = 4
MOST_MEMORIES = 12
MOST_KEYS = 3


def is_sections(thing):
    """Whether a thing is a tuple of sections."""
    if not isinstance(thing, tuple) or not 1 <= len(thing) <= MOST_PISTONS:
        return False
    return all(is_within(part, 1, MOST_SECTIONS) for part in thing)


def made_circuit(thing):
    """The thing itself, if it is a circuit; NoCircuit for anything else."""
    if not is_circuit(thing):
        raise NoCircuit("this is no circuit")
    return thing


def is_circuit(thing):
    """Whether a thing is a circuit."""
    if not isinstance(thing, tuple) or len(thing) != 4:
        return False
    sections, pilots, memories, keys = thing
    if not is_sections(sections) or not is_within(keys, 0, MOST_KEYS):
        return False
    if not are_pairs(pilots, len(sections), len(sections)):
        return False
    if not are_pairs(memories, 0, MOST_MEMORIES):
        return False
    return are_lines(sections, len(memories), keys, lines_of(thing))


def are_pairs(thing, least, most):
    """Whether a thing is a tuple of least to most pairs of whatever."""
    if not isinstance(thing, tuple) or not least <= len(thing) <= most:
        return False
    return all(isinstance(pair, tuple) and len(pair) == 2 for pair in thing)


def lines_of(circuit):
    """The lines of the pilots, then of the memories, those within others not told apart."""
    return [line for pairs in circuit[1:3] for pair in pairs for line in pair]


def counted(circuit):
    """How many valves, ands, ors and nots a circuit has."""
    words = [line[0] for line in lines_within(lines_of(circuit))]
    valves = len(circuit[0]) + len(circuit[2])
    return (valves, words.count("and"), words.count("or"), words.count("not"))

"""Faults: what may go wrong in a circuit, and the circuit in which it has."""

from pistonrounds.errors import NoFault
from pistonrounds.events import changed
from pistonrounds.ints import is_int
from pistonrounds.lines import parts_of, with_parts

ALWAYS_ON = ("and", ())
ALWAYS_OFF = ("or", ())
VALVE_WORDS = ("valve", "out", "in")


def faults_of(circuit):
    """All faults of a circuit, rising."""
    sections, memories = circuit[0], circuit[2]
    faults = [("cam", p, j, v) for p, cams in enumerate(sections) for j in range(cams + 1) for v in (0, 1)]
    faults.extend(faults_of_pairs(len(sections), "valve", ("out", "in")))
    faults.extend(faults_of_pairs(len(memories), "mark", ("on", "off")))
    return tuple(sorted(faults))


def faults_of_pairs(many, stuck, lines):
    """The faults of so many valves or memories, these being stuck or one of their lines being off."""
    faults = [(stuck, at, v) for at in range(many) for v in (0, 1)]
    return faults + [(word, at) for word in lines for at in range(many)]


def is_fault(circuit, thing):
    """Whether a thing is a fault of the circuit."""
    if not isinstance(thing, tuple) or len(thing) == 0 or not isinstance(thing[0], str):
        return False
    # True is equal to 1, so it has to be kept out ahead of the look among the faults.
    return all([is_int(part) for part in thing[1:]]) and thing in faults_of(circuit)


def hurt(circuit, fault):
    """The circuit with a fault; NoFault for anything that is none."""
    if not is_fault(circuit, fault):
        raise NoFault("this is no fault of the circuit")
    sections, pilots, memories, keys = circuit
    word = fault[0]
    if word == "cam":
        return (sections, with_signal(pilots, fault), with_signal(memories, fault), keys)
    if word in VALVE_WORDS:
        return (sections, with_fault(pilots, fault), memories, keys)
    return (sections, pilots, with_fault(memories, fault), keys)


def with_signal(pairs, fault):
    """The pairs of lines with each line of the fault's cam always on or always off."""
    word, p, j, v = fault
    cam = (word, p, j)
    signal = ALWAYS_ON if v == 1 else ALWAYS_OFF
    return tuple([(exchanged(first, cam, signal), exchanged(second, cam, signal)) for first, second in pairs])


def exchanged(line, cam, signal):
    """The line with the signal wherever the cam's line stands in it."""
    if line == cam:
        return signal
    return with_parts(line, tuple([exchanged(part, cam, signal) for part in parts_of(line)]))


def with_fault(pairs, fault):
    """The pairs of lines with that one hurt of which a fault of a valve, a memory or a line tells."""
    at = fault[1]
    return changed(pairs, at, hurt_pair(pairs[at], fault))


def hurt_pair(pair, fault):
    """The pair of lines of a valve or a memory with a fault of it."""
    word = fault[0]
    if word in ("out", "on"):
        return (ALWAYS_OFF, pair[1])
    if word in ("in", "off"):
        return (pair[0], ALWAYS_OFF)
    return (ALWAYS_ON, ALWAYS_OFF) if fault[2] == 1 else (ALWAYS_OFF, ALWAYS_ON)

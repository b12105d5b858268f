"""Pistons that are called otherwise: all things led over to the new numbers."""

from pistonrounds.lines import parts_of, with_parts

PISTON_FAULTS = ("cam", "valve", "out", "in")


def by_names(things, names):
    """The things of all pistons, each at its piston's new number."""
    return tuple([things[names.index(p)] for p in range(len(names))])


def led_sections(sections, names):
    """The sections by the new numbers."""
    return by_names(sections, names)


def led_round(steps, names):
    """The round with the new numbers, the moves of each step rising anew."""
    return tuple([tuple(sorted([(names[p], side) for p, side in step])) for step in steps])


def led_circuit(circuit, names):
    """The circuit with the new numbers."""
    sections, pilots, memories, keys = circuit
    return (by_names(sections, names), by_names(led_pairs(pilots, names), names), led_pairs(memories, names), keys)


def led_pairs(pairs, names):
    """The pairs of lines with the new numbers, in their order."""
    return tuple([(led_line(first, names), led_line(second, names)) for first, second in pairs])


def led_line(line, names):
    """The line with the new numbers in its cams, in their order."""
    if line[0] == "cam":
        return ("cam", names[line[1]], line[2])
    return with_parts(line, tuple([led_line(part, names) for part in parts_of(line)]))


def led_stand(stand, names):
    """The stand with places and valves by the new numbers."""
    places, valves, marks, keys = stand
    return (by_names(places, names), by_names(valves, names), marks, keys)


def led_paper(paper, names):
    """The paper of going, of not going, of being alike or of parting with the new numbers."""
    word, parts = paper
    if word == "goes":
        return (word, tuple(sorted([(led_stand(stand, names), i) for stand, i in parts])))
    if word == "alike":
        return (word, tuple(sorted([(led_stand(one, names), led_stand(other, names)) for one, other in parts])))
    return (word, tuple([led_event(event, names) for event in parts]))


def led_event(event, names):
    """The event with the new number, if it is a piston's."""
    word, number = event
    return (word, names[number]) if word == "go" else event


def led_fault(fault, names):
    """The fault with the new number, if it is a piston's."""
    if fault[0] not in PISTON_FAULTS:
        return fault
    return (fault[0], names[fault[1]]) + fault[2:]

"""Finding the faults that leave the machine standing as it is seen."""

from pistonrounds.answering import settled
from pistonrounds.errors import NoEvent, Restless, TooGreat
from pistonrounds.events import can_go, stand_behind
from pistonrounds.faults import faults_of, hurt, is_fault
from pistonrounds.runs import run
from pistonrounds.ways import Ways

MOST_STANDS = 200


def fault_by(circuit, stand, seen, paper):
    """Whether a thing is a paper of a fault that leaves the machine in the seen stand."""
    if not isinstance(paper, tuple) or len(paper) != 2 or not is_fault(circuit, paper[0]):
        return False
    fault, events = paper
    broken = hurt(circuit, fault)
    try:
        last = run(broken, settled(broken, stand), events)[-1]
    except (NoEvent, Restless):
        return False
    # The run has been gone: so each of its things is an event, and has a word.
    return all(event[0] == "go" for event in events) and last == seen and can_go(broken, seen) == ()


def faults_for(circuit, stand, seen):
    """One paper for each fault that leaves the machine in the seen stand, rising; TooGreat."""
    papers = []
    for fault in faults_of(circuit):
        broken = hurt(circuit, fault)
        # Even if something can go in the seen stand all is gone through: it may be too much.
        ways = ways_from(broken, stand)
        if ways is not None and seen in ways.came and can_go(broken, seen) == ():
            papers.append((fault, ways.events_to(seen)))
    return tuple(papers)


def ways_from(circuit, stand):
    """The ways to all stands that come from a stand, settled anew, while pistons go; None if it is Restless."""
    try:
        first = settled(circuit, stand)
    except Restless:
        return None
    ways = Ways(first)
    at = 0
    while at < len(ways.found):
        if at == MOST_STANDS:
            raise TooGreat("more stands come than are gone through")
        lead_on(circuit, ways, ways.found[at])
        at += 1
    return ways


def lead_on(circuit, ways, stand):
    """Takes up the stands that come behind each piston's going, where this isn't Restless."""
    for p, side in can_go(circuit, stand):
        event = ("go", p)
        behind = stand_behind(circuit, stand, event)
        if behind is not None:
            ways.lead(stand, event, behind)

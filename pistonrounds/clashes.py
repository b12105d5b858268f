"""Clashes: calls that are pressed while another step is under way, and send a piston that isn't due there."""

from pistonrounds.ints import is_int, is_within
from pistonrounds.pistons import is_pressed
from pistonrounds.rounds import between, call_of, due_end, due_ends, pistons_of


def is_clash(sections, steps, thing):
    """Whether a thing is a clash of the round."""
    if not isinstance(thing, tuple) or len(thing) != 4:
        return False
    i, come, j, p = thing
    if not is_within(i, 0, len(steps) - 1) or not is_come(steps[i], come):
        return False
    # True is equal to 1, so it has to be kept out ahead of the look among the clashes.
    return is_int(j) and is_int(p) and thing in clashes_at(sections, steps, i, come)


def is_come(step, thing):
    """Whether a thing is a tuple of pistons of the step, rising, not all of them."""
    if not isinstance(thing, tuple) or not all(is_int(part) for part in thing):
        return False
    return thing in comes_of(step)


def comes_of(step):
    """All tuples of pistons of the step, rising, but for that of all of them."""
    comes = [()]
    for p in pistons_of(step):
        comes = comes + [come + (p,) for come in comes]
    return comes[:-1]


def clashes_at(sections, steps, i, come):
    """The clashes while in step i just the pistons of come have come."""
    places = places_with(sections, steps, i, come)
    called = [j for j in range(len(steps)) if is_called(sections, steps, j, places)]
    return [
        (i, come, j, p) for j in called for p in pistons_of(steps[j])
        if is_against(sections, steps, i, j, p) or is_ahead_of_key(steps, i, come, j, p)
    ]


def places_with(sections, steps, i, come):
    """The places ahead of step i, but for the pistons of come, which are at their due ends."""
    ahead = between(sections, steps, i)
    due = due_ends(sections, steps, i)
    return tuple([due[p] if p in come else ahead[p] for p in range(len(sections))])


def is_called(sections, steps, j, places):
    """Whether all cams of the call of step j are pressed at these places."""
    return all([is_pressed(places, cam) for cam in call_of(sections, steps, j)])


def is_against(sections, steps, i, j, p):
    """Whether the move of a piston in step j is not to its due end in step i."""
    return due_end(sections, steps, j, p) != due_end(sections, steps, i, p)


def is_ahead_of_key(steps, i, come, j, p):
    """Whether step j would send a piston of step 0 ahead of it, so that key 1 would not hold this."""
    return i == 0 and come == () and j != 0 and p in pistons_of(steps[0])


def clashes(sections, steps):
    """All clashes of the round, rising."""
    found = []
    for i, step in enumerate(steps):
        for come in comes_of(step):
            found.extend(clashes_at(sections, steps, i, come))
    return tuple(sorted(found))


def bars(sections, steps):
    """The clashes by which both lines of a valve are wanted at once, rising."""
    return tuple([clash for clash in clashes(sections, steps) if is_bar(sections, steps, clash)])


def is_bar(sections, steps, clash):
    """Whether a clash of the round is a bar."""
    i, come, j, p = clash
    return come == () and p in pistons_of(steps[i]) and is_against(sections, steps, i, j, p)

"""Lines: cams, marks and keys, and what is put together of them."""

from pistonrounds.ints import is_within

MOST_DEEP = 6
MOST_PARTS = 12
MOST_LINES = 2000


def is_line(sections, marks, keys, thing):
    """Whether a thing is a line of these sections, so many memories and so many keys."""
    return are_lines(sections, marks, keys, (thing,))


def are_lines(sections, marks, keys, things):
    """Whether all of the things are lines, and at most MOST_LINES stand in them together."""
    waiting = [(thing, 1) for thing in things]
    seen = 0
    while waiting:
        thing, level = waiting.pop()
        seen += 1
        # A part may stand in a thing millions of times over: so the count ends the walk, not the thing.
        if seen > MOST_LINES or level > MOST_DEEP:
            return False
        if not has_form(sections, marks, keys, thing):
            return False
        waiting.extend([(part, level + 1) for part in parts_of(thing)])
    return True


def has_form(sections, marks, keys, thing):
    """Whether a thing is a line, if the parts in it are lines."""
    if not isinstance(thing, tuple) or len(thing) not in (2, 3) or not isinstance(thing[0], str):
        return False
    word = thing[0]
    if word == "cam":
        return is_cam(sections, thing)
    if len(thing) != 2:
        return False
    inner = thing[1]
    if word == "mark":
        return is_within(inner, 0, marks - 1)
    if word == "key":
        return is_within(inner, 0, keys - 1)
    if word in ("and", "or"):
        return isinstance(inner, tuple) and len(inner) <= MOST_PARTS
    return word == "not"


def is_cam(sections, thing):
    """Whether a tuple that begins with cam names a cam that is there."""
    if len(thing) != 3 or not is_within(thing[1], 0, len(sections) - 1):
        return False
    return is_within(thing[2], 0, sections[thing[1]])


def parts_of(line):
    """The lines that stand directly in a line."""
    word = line[0]
    if word in ("and", "or"):
        return line[1]
    if word == "not":
        return (line[1],)
    return ()


def with_parts(line, parts):
    """The line with other lines directly in it, as many as before."""
    word = line[0]
    if word in ("and", "or"):
        return (word, parts)
    if word == "not":
        return (word, parts[0])
    return line


def lines_within(lines):
    """All lines that stand in the given ones, these too, each as often as it stands."""
    found = list(lines)
    at = 0
    while at < len(found):
        found.extend(parts_of(found[at]))
        at += 1
    return found


def depth_of(line):
    """How deep a line is."""
    return 1 + max([depth_of(part) for part in parts_of(line)], default=0)

"""Things that several tests use: anything, lines of a told depth or length, and small circuits."""

import copy
import reprlib

from pistonrounds import errors

ON = ("and", ())
OFF = ("or", ())


def nested(depth, wrap, inner):
    """The inner thing with so many wraps around it."""
    thing = inner
    for _ in range(depth):
        thing = wrap(thing)
    return thing


def anything():
    """Things of all of Python's own kinds, none of them right anywhere; made anew in each call."""
    return [
        None, True, False, ..., 0, 1, -1, 2, 10 ** 999, -(10 ** 999), 3 + 0 * (10 ** 500),
        "", "a", "and", "cam", "go", "\n", "goes ~ ~", "a" * 5000,
        b"", b"and", bytes(40),
        (), ((),), ((), (), (), ()), (None,), (None, None, None, None), (True, False),
        ("and",), ("cam", 0), ("go",), (0,) * 1300, ("",) * 4,
        [], [[]], [1], [("cam", 0, 0)], ["go", 0], [None] * 4,
        {}, {0: 1}, {"and": ()}, {(): ()}, set(), {1, 2}, frozenset((1,)), range(3), bytearray(2),
        nested(39, lambda thing: (thing,), ()),
        nested(39, lambda thing: [thing], []),
        nested(39, lambda thing: {1: thing}, {}),
        nested(39, lambda thing: ("not", thing), "x"),
        nested(20, lambda thing: ("and", (thing,)), None),
        nested(39, lambda thing: (thing, thing), ()),
    ]


def not_deep():
    """Anything but what stands in itself so often that to compare or to copy it would take too long."""
    return anything()[:-1]


def nowhere():
    """Things that may stand at no place whatever, of all kinds."""
    return [
        None, True, False, ..., -1, 10 ** 999, -(10 ** 999), "", "x", "Cam", "\n", b"", b"and", b"go",
        (None,), ((),), (True, 0), ("and",), [], [0], ["cam", 0, 0], {}, {0: 1}, {"and": ()}, set(), range(1),
        nested(30, lambda thing: (thing,), ()), nested(30, lambda thing: ("not", thing), "x"),
    ]


def put(thing, path, new):
    """The nested tuple with another thing at the place to which the path leads."""
    if not path:
        return new
    at = path[0]
    return thing[:at] + (put(thing[at], path[1:], new),) + thing[at + 1:]


def paths(thing):
    """The paths to all things within a nested tuple, its own () too."""
    found = [()]
    if isinstance(thing, tuple):
        for at, part in enumerate(thing):
            found.extend((at,) + path for path in paths(part))
    return found


def within(thing, path):
    """What stands in the nested tuple where the path leads."""
    for at in path:
        thing = thing[at]
    return thing


def nots(depth, line):
    """The line with nots around it, so that a line 1 deep becomes so deep."""
    return nested(depth - 1, lambda inner: ("not", inner), line)


def of_size(size):
    """A line in which just so many lines stand, itself counted; size is up to 157."""
    full = ("and", (ON,) * 12)
    many, rest = divmod(size - 1, 13)
    parts = (full,) * many
    if rest:
        parts += (("and", (ON,) * (rest - 1)),)
    return ("and", parts)


def circuit_of_size(size):
    """A circuit in which just so many lines stand."""
    lines = []
    left = size
    for after in range(23, -1, -1):
        here = min(157, left - after)
        lines.append(of_size(here))
        left -= here
    pairs = tuple(zip(lines[0::2], lines[1::2]))
    return ((1, 2), pairs[:2], pairs[2:], 0)


def plain(pistons=1, memories=0, keys=0, sections=1):
    """A circuit whose lines are all off."""
    return ((sections,) * pistons, ((OFF, OFF),) * pistons, ((OFF, OFF),) * memories, keys)


SMALL = (
    (1, 2),
    (
        (("and", (("cam", 1, 0), ("key", 0), ("not", ("mark", 0)))), ("cam", 1, 2)),
        (("or", (("mark", 1), ("key", 1))), ("not", ("or", (("cam", 0, 1), ("mark", 0))))),
    ),
    ((("cam", 0, 1), OFF), (("mark", 0), ("and", (("not", ("not", ("cam", 1, 1))), ON)))),
    2,
)


SMALL_STAND = ((1, 4), (0, 1), (1, 0), (0, 1))


def follow(line):
    """The pair of lines of a memory that takes over whether the line is on."""
    return (line, ("not", line))


def blinker(while_on):
    """The pair of lines of memory 0 that turns for ever while the line is on."""
    return (("and", (while_on, ("not", ("mark", 0)))), ("and", (while_on, ("mark", 0))))


def counter(bits, going):
    """Pairs of lines of memories 0 .. that count up by 1 with each answer while the line is on."""
    pairs = []
    for bit in range(bits):
        low = (going,) + tuple(("mark", lower) for lower in range(bit))
        pairs.append((("and", low + (("not", ("mark", bit)),)), ("and", low + (("mark", bit),))))
    return tuple(pairs)


def marks_of(number, bits):
    """The marks of a counter that has counted up to the number."""
    return tuple(number >> bit & 1 for bit in range(bits))


class Unchanged:
    """Holds copies of mutable things, and tells whether these are still equal to them."""

    def __init__(self, things):
        self.things = things
        self.copies = copy.deepcopy(things)

    def holds(self):
        return self.things == self.copies


class Refusals:
    """Tests how calls are refused: mixed into test cases."""

    def assert_only(self, kind, call, *arguments):
        """Just this class is raised, none that stands beside it; the error is handed back."""
        with self.assertRaises(errors.PistonError, msg=reprlib.repr(arguments)) as caught:
            call(*arguments)
        self.assertIs(type(caught.exception), kind, reprlib.repr(arguments))
        self.assertIsInstance(caught.exception, ValueError)
        return caught.exception

    def assert_at(self, kind, at, call, *arguments):
        """Just this class is raised, with this number as its at."""
        error = self.assert_only(kind, call, *arguments)
        self.assertEqual(error.at, at, reprlib.repr(arguments))
        self.assertIs(type(error.at), int)

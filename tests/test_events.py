"""Points 2, 11 and 12: what can go, events, and what comes behind one."""

import unittest

from pistonrounds.answering import is_settled, settled
from pistonrounds.circuits import made_circuit
from pistonrounds.errors import NoEvent, Restless
from pistonrounds.events import after, can_go, events_of
from pistonrounds.stands import made_stand
from tests.things import OFF, ON, Refusals, Unchanged, anything, blinker, follow, not_deep, plain

# Piston 0 is sent by key 0; piston 1 follows it by a memory that takes over cam 1 of piston 0.
PUSHING = made_circuit((
    (1, 2),
    (follow(("key", 0)), follow(("mark", 0))),
    ((("cam", 0, 1), ("cam", 0, 0)),),
    2,
))
REST = ((0, 0), (0, 0), (0,), (0, 0))


def others(stand):
    """Things that are no events in a stand in which piston 0 can go and two keys are there."""
    return [
        ("go", 1), ("go", 2), ("go", -1), ("turn", 2), ("turn", -1), ("turn", 10 ** 999), ("go", 10 ** 999),
        ("go", True), ("go", False), ("turn", True), ("turn", False), ("go", None), ("go", "0"), ("go", (0,)),
        ("go", [0]), ["go", 0], ["turn", 0], ("go",), ("turn",), ("go", 0, 0), ("turn", 0, 1), ("go", 0, ()), (),
        ("Go", 0), ("turn ", 0), ("", 0), ("key", 0), ("come", 0), (b"go", 0), (b"turn", 0), (0, "go"), (None, 0),
        (0, 0), ("go", "turn"), (("go", 0),), (("go",), 0), "go", "g0", "turn 0", b"go", {"go": 0}, 0, stand,
    ]


class CanGoTest(unittest.TestCase):
    def test_at_ends_and_between_either_way(self):
        for sections in (1, 2, 3, 4):
            circuit = plain(sections=sections)
            for place in range(2 * sections + 1):
                out = ((place,), (1,), (), ())
                self.assertEqual(can_go(circuit, out), () if place == 2 * sections else ((0, 1),))
                back = ((place,), (0,), (), ())
                self.assertEqual(can_go(circuit, back), () if place == 0 else ((0, 0),))

    def test_each_by_its_own_sections_rising(self):
        circuit = made_circuit(((1, 2, 3, 4, 2, 1), ((OFF, OFF),) * 6, (), 0))
        stand = made_stand(circuit, ((2, 2, 6, 7, 0, 2), (1, 1, 0, 1, 0, 0), (), ()))
        self.assertEqual(can_go(circuit, stand), ((1, 1), (2, 0), (3, 1), (5, 0)))
        self.assertEqual(events_of(circuit, stand), (("go", 1), ("go", 2), ("go", 3), ("go", 5)))

    def test_can_go_is_told_of_stands_that_are_not_settled_too(self):
        circuit = made_circuit(((1,), ((ON, OFF),), (), 0))
        self.assertEqual(can_go(circuit, ((1,), (0,), (), ())), ((0, 0),))


class EventsOfTest(unittest.TestCase):
    def test_goes_then_turns(self):
        circuit = plain(3, 2, 3, 2)
        stand = ((0, 2, 4), (1, 0, 0), (0, 0), (0, 1, 0))
        told = events_of(circuit, stand)
        self.assertEqual(told, (("go", 0), ("go", 1), ("go", 2), ("turn", 0), ("turn", 1), ("turn", 2)))
        self.assertEqual(told, tuple(sorted(set(told))))

    def test_no_event_at_all(self):
        self.assertEqual(events_of(plain(), ((0,), (0,), (), ())), ())
        self.assertEqual(events_of(plain(keys=1), ((0,), (0,), (), (1,))), (("turn", 0),))

    def test_each_is_an_event_and_what_is_not_told_is_none(self):
        circuit = plain(2, 0, 2, 2)
        for first in range(5):
            for valve in (0, 1):
                stand = ((first, 0), (valve, 0), (), (0, 1))
                told = events_of(circuit, stand)
                for word in ("go", "turn"):
                    for number in range(-1, 4):
                        if (word, number) in told:
                            self.assertTrue(made_stand(circuit, after(circuit, stand, (word, number))))
                        else:
                            self.assertRaises(NoEvent, after, circuit, stand, (word, number))


class AfterTest(Refusals, unittest.TestCase):
    def test_a_go_is_one_place_to_the_side_of_the_valve(self):
        circuit = plain(3, 1, 1, 2)
        stand = ((1, 3, 2), (1, 0, 1), (1,), (0,))
        self.assertEqual(after(circuit, stand, ("go", 0)), ((2, 3, 2), (1, 0, 1), (1,), (0,)))
        self.assertEqual(after(circuit, stand, ("go", 1)), ((1, 2, 2), (1, 0, 1), (1,), (0,)))
        self.assertEqual(after(circuit, stand, ("go", 2)), ((1, 3, 3), (1, 0, 1), (1,), (0,)))

    def test_a_turn(self):
        circuit = plain(1, 1, 3)
        stand = ((1,), (1,), (0,), (0, 1, 0))
        self.assertEqual(after(circuit, stand, ("turn", 0)), ((1,), (1,), (0,), (1, 1, 0)))
        self.assertEqual(after(circuit, stand, ("turn", 1)), ((1,), (1,), (0,), (0, 0, 0)))
        self.assertEqual(after(circuit, stand, ("turn", 2)), ((1,), (1,), (0,), (0, 1, 1)))

    def test_what_comes_behind_is_settled(self):
        self.assertEqual(settled(PUSHING, REST), REST)
        turned = after(PUSHING, REST, ("turn", 0))
        self.assertEqual(turned, ((0, 0), (1, 0), (0,), (1, 0)))
        half = after(PUSHING, turned, ("go", 0))
        self.assertEqual(half, ((1, 0), (1, 0), (0,), (1, 0)))
        out = after(PUSHING, half, ("go", 0))
        # Two answers behind the one go: the memory takes over the cam, then the valve the memory.
        self.assertEqual(out, ((2, 0), (1, 1), (1,), (1, 0)))
        back = after(PUSHING, out, ("turn", 0))
        self.assertEqual(back, ((2, 0), (0, 1), (1,), (0, 0)))
        for stand in (turned, half, out, back):
            self.assertIs(is_settled(PUSHING, stand), True)
            self.assertIs(made_stand(PUSHING, stand), stand)

    def test_a_piston_at_the_end_to_which_it_is_sent(self):
        for place, valve in ((0, 0), (4, 1)):
            stand = ((place,), (valve,), (), ())
            self.assert_at(NoEvent, 0, after, plain(sections=2), stand, ("go", 0))

    def test_what_is_no_event(self):
        stand = ((0, 0), (1, 0), (0,), (1, 0))
        self.assertEqual(events_of(PUSHING, stand), (("go", 0), ("turn", 0), ("turn", 1)))
        for thing in anything() + others(stand):
            self.assert_at(NoEvent, 0, after, PUSHING, stand, thing)

    def test_true_is_no_number_where_1_would_be_one(self):
        stand = ((0, 0), (1, 1), (1,), (1, 0))
        circuit = plain(2, 1, 2)
        for word in ("go", "turn"):
            after(circuit, stand, (word, 1))
            after(circuit, stand, (word, 0))
            self.assert_at(NoEvent, 0, after, circuit, stand, (word, True))
            self.assert_at(NoEvent, 0, after, circuit, stand, (word, False))

    def test_keys_that_are_not_there(self):
        for keys in range(4):
            stand = ((0,), (0,), (), (0,) * keys)
            for k in range(-2, 6):
                if 0 <= k < keys:
                    after(plain(keys=keys), stand, ("turn", k))
                else:
                    self.assert_at(NoEvent, 0, after, plain(keys=keys), stand, ("turn", k))

    def test_restless(self):
        circuit = made_circuit(((1,), ((OFF, OFF),), (blinker(("key", 0)),), 1))
        stand = ((0,), (1,), (0,), (0,))
        self.assertIs(is_settled(circuit, stand), True)
        self.assert_at(Restless, 0, after, circuit, stand, ("turn", 0))
        self.assertEqual(after(circuit, stand, ("go", 0)), ((1,), (1,), (0,), (0,)))
        circuit = made_circuit(((1,), ((OFF, OFF),), (blinker(("not", ("cam", 0, 0))),), 1))
        self.assert_at(Restless, 0, after, circuit, stand, ("go", 0))
        self.assertEqual(after(circuit, stand, ("turn", 0)), ((0,), (1,), (0,), (1,)))

    def test_arguments_are_left_alone_and_answers_are_equal(self):
        things = not_deep() + [["go", 0], PUSHING, REST]
        kept = Unchanged(things)
        for thing in things:
            self.assert_at(NoEvent, 0, after, PUSHING, REST, thing)
        self.assertEqual(can_go(PUSHING, REST), can_go(PUSHING, REST))
        self.assertEqual(events_of(PUSHING, REST), events_of(PUSHING, REST))
        self.assertEqual(after(PUSHING, REST, ("turn", 0)), after(PUSHING, REST, ("turn", 0)))
        self.assertTrue(kept.holds())


if __name__ == "__main__":
    unittest.main()

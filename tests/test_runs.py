"""Points 2 and 12: runs."""

import unittest

from pistonrounds.circuits import made_circuit
from pistonrounds.errors import NoEvent, Restless
from pistonrounds.events import after
from pistonrounds.runs import run
from tests.things import OFF, Refusals, Unchanged, anything, blinker, follow, not_deep, plain

# Piston 0 is sent by key 0; behind a turn of key 1 no stand is settled while the piston is in.
CIRCUIT = made_circuit((
    (2,),
    (follow(("key", 0)),),
    (blinker(("and", (("key", 1), ("cam", 0, 0)))),),
    2,
))
REST = ((0,), (0,), (0,), (0, 0))
OUT = (("turn", 0), ("go", 0), ("go", 0), ("go", 0), ("go", 0))


class RunTest(Refusals, unittest.TestCase):
    def test_no_event(self):
        self.assertEqual(run(CIRCUIT, REST, ()), (REST,))

    def test_the_first_stand_and_that_behind_each_event(self):
        told = run(CIRCUIT, REST, OUT + (("turn", 0), ("go", 0), ("turn", 1)))
        self.assertIs(type(told), tuple)
        self.assertEqual(told, (
            REST,
            ((0,), (1,), (0,), (1, 0)), ((1,), (1,), (0,), (1, 0)), ((2,), (1,), (0,), (1, 0)),
            ((3,), (1,), (0,), (1, 0)), ((4,), (1,), (0,), (1, 0)), ((4,), (0,), (0,), (0, 0)),
            ((3,), (0,), (0,), (0, 0)), ((3,), (0,), (0,), (0, 1)),
        ))
        for at, event in enumerate(OUT):
            self.assertEqual(after(CIRCUIT, told[at], event), told[at + 1])

    def test_1200_events_and_1201(self):
        events = (("turn", 0),) * 1200
        told = run(CIRCUIT, REST, events)
        self.assertEqual(len(told), 1201)
        self.assertEqual(told[1199], ((0,), (1,), (0,), (1, 0)))
        self.assertEqual(told[1200], REST)
        self.assert_at(NoEvent, 0, run, CIRCUIT, REST, events + (("turn", 0),))
        self.assert_at(NoEvent, 0, run, CIRCUIT, REST, events + (None,))
        self.assert_at(NoEvent, 1199, run, CIRCUIT, REST, events[1:] + (None,))

    def test_what_is_no_tuple(self):
        for thing in anything():
            if not isinstance(thing, tuple):
                self.assert_at(NoEvent, 0, run, CIRCUIT, REST, thing)
        self.assert_at(NoEvent, 0, run, CIRCUIT, REST, list(OUT))
        self.assert_at(NoEvent, 0, run, CIRCUIT, REST, [])
        self.assert_at(NoEvent, 0, run, CIRCUIT, REST, {})
        self.assert_at(NoEvent, 0, run, CIRCUIT, REST, "")

    def test_anything_among_the_events(self):
        for thing in anything() + [["turn", 0], ("go", 1), ("turn", 2), ("turn", True), ("turn",), ("turn", 0, 0)]:
            for at in (0, 1, 3, 5):
                self.assert_at(NoEvent, at, run, CIRCUIT, REST, OUT[:at] + (thing,) + OUT[at:])

    def test_an_event_alone_is_no_run(self):
        self.assert_at(NoEvent, 0, run, CIRCUIT, REST, ("turn", 0))

    def test_events_go_by_the_stand_behind_those_ahead(self):
        self.assert_at(NoEvent, 0, run, CIRCUIT, REST, OUT[1:])
        self.assert_at(NoEvent, 5, run, CIRCUIT, REST, OUT + (("go", 0),))
        self.assert_at(NoEvent, 2, run, CIRCUIT, REST, OUT[:1] + OUT[:1] + OUT[1:])

    def test_restless_has_the_number_of_its_event(self):
        self.assert_at(Restless, 0, run, CIRCUIT, REST, (("turn", 1),))
        self.assert_at(Restless, 2, run, CIRCUIT, REST, (("turn", 0), ("turn", 0), ("turn", 1), ("turn", 0)))
        back = OUT[:2] + (("turn", 1), ("turn", 0), ("go", 0), ("turn", 1))
        self.assert_at(Restless, 4, run, CIRCUIT, REST, back)
        self.assertEqual(run(CIRCUIT, REST, back[:4])[-1], ((1,), (0,), (0,), (0, 1)))

    def test_whichever_comes_first(self):
        self.assert_at(Restless, 0, run, CIRCUIT, REST, (("turn", 1), None))
        self.assert_at(Restless, 1, run, CIRCUIT, REST, (("turn", 0), ("turn", 1), ("go", 9)))
        self.assert_at(NoEvent, 0, run, CIRCUIT, REST, (None, ("turn", 1)))
        self.assert_at(NoEvent, 1, run, CIRCUIT, REST, (("turn", 0), ("go", 1), ("turn", 1)))

    def test_of_two_that_are_due_the_first_in_the_interface(self):
        self.assert_at(NoEvent, 0, run, CIRCUIT, REST, (("turn", 1),) * 1201)
        self.assert_at(NoEvent, 0, run, CIRCUIT, REST, [("turn", 1)])

    def test_several_pistons(self):
        circuit = plain(2)
        told = run(circuit, ((0, 2), (1, 0), (), ()), (("go", 1), ("go", 0), ("go", 1), ("go", 0)))
        self.assertEqual([stand[0] for stand in told], [(0, 2), (0, 1), (1, 1), (1, 0), (2, 0)])

    def test_arguments_are_left_alone_and_answers_are_equal(self):
        things = not_deep() + [list(OUT), OUT, CIRCUIT, REST]
        kept = Unchanged(things)
        for thing in things:
            if thing not in ((), OUT):
                self.assert_at(NoEvent, 0, run, CIRCUIT, REST, thing)
        self.assertEqual(run(CIRCUIT, REST, OUT), run(CIRCUIT, REST, OUT))
        self.assertTrue(kept.holds())


if __name__ == "__main__":
    unittest.main()

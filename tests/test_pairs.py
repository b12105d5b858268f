"""Points 2, 3 and 29: two circuits compared."""

import unittest

from pistonrounds.alikepapers import alike_by, apart_by, look_alike
from pistonrounds.circuits import made_circuit
from pistonrounds.cuts import fewest_cut
from pistonrounds.errors import TooGreat
from pistonrounds.events import after
from pistonrounds.groups import chain_cut, group_circuit, group_rest
from pistonrounds.pairs import compare
from pistonrounds.plain import plain_circuit, plain_rest
from pistonrounds.stands import made_stand
from tests.some_rounds import (
    BLINKING, BLINKING_REST, STILL, cuts_of, just_1000, just_1001, pairs_from, small_rounds, some_rounds, steps_of,
)
from tests.things import OFF, ON, Refusals, Unchanged, blinker, follow, plain

STEPS = steps_of("a+ b+ a- b-")
ONE, STAND = plain_circuit((1, 1), STEPS), plain_rest((1, 1), STEPS)
# A round with clashes: its plain circuit parts from those by groups.
BAD_STEPS = steps_of("a+ a- b+ b-")
TURN_0, TURN_1, GO_0 = ("turn", 0), ("turn", 1), ("go", 0)


def wrapped(circuit):
    """The circuit with an and of one part and two nots around each line."""
    sections, pilots, memories, keys = circuit
    pilots, memories = [
        tuple((("and", (on,)), ("not", ("not", off))) for on, off in pairs) for pairs in (pilots, memories)
    ]
    return made_circuit((sections, pilots, memories, keys))


def with_memory(circuit, pair):
    """The circuit with a memory more."""
    sections, pilots, memories, keys = circuit
    return made_circuit((sections, pilots, memories + (pair,), keys))


def with_mark(stand, mark):
    places, valves, marks, keys = stand
    return (places, valves, marks + (mark,), keys)


def made(sections, steps, cut):
    return group_circuit(sections, steps, cut), group_rest(sections, steps, cut)


class CompareTest(Refusals, unittest.TestCase):
    def alike(self, one, stand, other, beside):
        paper = compare(one, stand, other, beside)
        self.assertEqual(paper[0], "alike")
        self.assertIs(alike_by(one, stand, other, beside, paper), True)
        self.assertIs(apart_by(one, stand, other, beside, paper), False)
        return paper

    def apart(self, one, stand, other, beside):
        paper = compare(one, stand, other, beside)
        self.assertEqual(paper[0], "apart")
        self.assertIs(apart_by(one, stand, other, beside, paper), True)
        self.assertIs(alike_by(one, stand, other, beside, paper), False)
        return paper

    def test_a_circuit_beside_itself(self):
        paper = self.alike(ONE, STAND, ONE, STAND)
        self.assertEqual(paper, ("alike", pairs_from(ONE, STAND, ONE, STAND)))
        for sections, steps in some_rounds()[:12]:
            circuit, rest = plain_circuit(sections, steps), plain_rest(sections, steps)
            self.alike(circuit, rest, circuit, rest)

    def test_a_circuit_beside_itself_with_its_lines_wrapped(self):
        for steps in (STEPS, BAD_STEPS):
            circuit, rest = made((2, 1), steps, chain_cut(steps))
            self.alike(circuit, rest, wrapped(circuit), rest)
            self.alike(wrapped(circuit), rest, circuit, rest)

    def test_a_memory_more_that_does_nothing(self):
        still = with_memory(ONE, (OFF, OFF))
        for mark in (0, 1):
            self.alike(ONE, STAND, still, with_mark(STAND, mark))
            self.alike(still, with_mark(STAND, mark), ONE, STAND)
        self.alike(still, with_mark(STAND, 1), still, with_mark(STAND, 0))
        # This memory changes all the time, but no line asks for it.
        busy = with_memory(ONE, follow(("cam", 0, 0)))
        self.alike(ONE, STAND, busy, with_mark(STAND, 1))

    def test_circuits_of_one_round_by_all_cuts(self):
        many = 0
        for sections, steps in [((1, 1), steps) for steps in small_rounds()[::5]] + some_rounds()[4:8]:
            first = made(sections, steps, fewest_cut(steps))
            for cut in cuts_of(steps):
                self.alike(*first, *made(sections, steps, cut))
                many += 1
        self.assertGreater(many, 40)

    def test_where_a_round_has_no_clashes_the_plain_circuit_is_alike_too(self):
        paper = self.alike(ONE, STAND, *made((1, 1), STEPS, chain_cut(STEPS)))
        self.assertEqual(paper[1], tuple(sorted(paper[1])))

    def test_from_stands_that_are_no_rest(self):
        other, beside = made((1, 1), STEPS, chain_cut(STEPS))
        stand = STAND
        for event in (TURN_0, TURN_1, GO_0, TURN_1, GO_0, ("go", 1), TURN_0):
            stand, beside = after(ONE, stand, event), after(other, beside, event)
            self.alike(ONE, stand, other, beside)

    def test_apart_at_once(self):
        for beside in (
            ((2, 0), (1, 0), (), (0, 0)), ((0, 0), (1, 0), (), (0, 0)), ((0, 0), (0, 0), (), (0, 1)),
            ((0, 1), (0, 1), (), (0, 0)),
        ):
            made_stand(ONE, beside)
            self.assertIs(look_alike(ONE, STAND, ONE, beside), False)
            self.assertEqual(self.apart(ONE, STAND, ONE, beside), ("apart", ()))
            self.assertEqual(self.apart(ONE, beside, ONE, STAND), ("apart", ()))

    def test_apart_behind_one_event(self):
        bad = plain_circuit((1, 1), BAD_STEPS), plain_rest((1, 1), BAD_STEPS)
        self.apart(*bad, *made((1, 1), BAD_STEPS, chain_cut(BAD_STEPS)))
        self.apart(*made((1, 1), BAD_STEPS, chain_cut(BAD_STEPS)), *bad)

    def test_apart_behind_some_events(self):
        other_steps = steps_of("a+ b+ b- a-")
        paper = self.apart(*made((1, 1), STEPS, chain_cut(STEPS)), *made((1, 1), other_steps, chain_cut(other_steps)))
        self.assertEqual(sorted(paper[1]), [GO_0] * 2 + [("go", 1)] * 2 + [TURN_0, TURN_1])

    def test_apart_by_what_a_memory_has_kept(self):
        # The memories keep that the piston was out and in again: then the other circuit sends it out just once more.
        counting = (
            (("and", (("cam", 0, 1), ("not", ("mark", 1)))), OFF),
            (("and", (("cam", 0, 0), ("mark", 0))), OFF),
        )
        one = made_circuit(((1,), ((("cam", 0, 0), ("cam", 0, 1)),), counting, 0))
        held = ("and", (("cam", 0, 0), ("not", ("mark", 1))))
        other = made_circuit(((1,), ((held, ("cam", 0, 1)),), counting, 0))
        stand = ((0,), (1,), (0, 0), ())
        self.assertEqual(self.apart(one, stand, other, stand), ("apart", (GO_0,) * 8))

    def test_apart_by_an_event_that_is_restless_in_just_one(self):
        for one, other in ((BLINKING, STILL), (STILL, BLINKING)):
            paper = self.apart(made_circuit(one), BLINKING_REST, made_circuit(other), BLINKING_REST)
            self.assertEqual(sorted(set(paper[1])), [GO_0, TURN_0])

    def test_an_event_that_is_restless_in_both(self):
        paper = self.alike(BLINKING, BLINKING_REST, BLINKING, BLINKING_REST)
        self.assertEqual(paper, ("alike", pairs_from(BLINKING, BLINKING_REST, BLINKING, BLINKING_REST)))
        # All events are Restless here.
        hectic = made_circuit(((1,), ((OFF, OFF),), (blinker(("key", 0)),), 1))
        stand = ((0,), (0,), (0,), (0,))
        self.assertEqual(self.alike(hectic, stand, hectic, stand), ("alike", ((stand, stand),)))

    def test_no_events_at_all(self):
        circuit, stand = plain(), ((0,), (0,), (), ())
        self.assertEqual(self.alike(circuit, stand, circuit, stand), ("alike", ((stand, stand),)))
        sent = made_circuit(((1,), ((ON, ON),), (), 0))
        self.assertEqual(self.alike(circuit, stand, sent, stand), ("alike", ((stand, stand),)))

    def test_just_1000_pairs(self):
        circuit, stand = plain(3, 0, 3, 2), ((0, 0, 0), (1, 1, 1), (), (0, 0, 0))
        paper = self.alike(circuit, stand, circuit, stand)
        self.assertEqual(len(paper[1]), 1000)
        circuit, steps, stand = just_1000()
        self.assertEqual(len(self.alike(circuit, stand, circuit, stand)[1]), 1000)

    def test_more_than_1000_pairs(self):
        circuit, steps, rest = just_1001()
        self.assertEqual(len(pairs_from(circuit, rest, circuit, rest)), 1001)
        self.assert_only(TooGreat, compare, circuit, rest, circuit, rest)
        circuit, stand = plain(4, 0, 3, 2), ((0, 0, 0, 3), (1, 1, 1, 1), (), (0, 0, 0))
        self.assert_only(TooGreat, compare, circuit, stand, circuit, stand)

    def test_more_pairs_than_stands(self):
        # The two memories that no line asks for go their own ways.
        circuit, rest = made((1, 2), BAD_STEPS, chain_cut(BAD_STEPS))
        one = with_memory(circuit, (("key", 0), ("key", 1)))
        other = with_memory(circuit, (("key", 1), ("key", 0)))
        stand, beside = with_mark(rest, 0), with_mark(rest, 1)
        paper = self.alike(one, stand, other, beside)
        self.assertEqual(paper, ("alike", pairs_from(one, stand, other, beside)))

    def test_arguments_are_left_alone_and_answers_are_equal(self):
        bad = [plain_circuit((1, 1), BAD_STEPS), plain_rest((1, 1), BAD_STEPS)]
        for things in ([ONE, STAND, ONE, STAND], bad + list(made((1, 1), BAD_STEPS, chain_cut(BAD_STEPS)))):
            kept = Unchanged(things)
            self.assertEqual(compare(*things), compare(*things))
            self.assertTrue(kept.holds())


if __name__ == "__main__":
    unittest.main()

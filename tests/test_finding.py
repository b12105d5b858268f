"""Points 2, 3 and 32: faults that leave the machine standing as it is seen."""

import unittest

from pistonrounds.answering import is_settled, settled
from pistonrounds.circuits import made_circuit
from pistonrounds.cuts import fewest_cut
from pistonrounds.errors import Restless, TooGreat
from pistonrounds.events import after, can_go
from pistonrounds.faults import faults_of, hurt
from pistonrounds.finding import fault_by, faults_for
from pistonrounds.groups import group_circuit, group_rest
from pistonrounds.plain import plain_circuit, plain_rest
from pistonrounds.runs import run
from pistonrounds.stands import made_stand
from tests.some_rounds import some_rounds, steps_of
from tests.things import OFF, Refusals, Unchanged, anything, blinker, not_deep, nowhere, plain, put

GO_0, GO_1, TURN_0, TURN_1 = ("go", 0), ("go", 1), ("turn", 0), ("turn", 1)
STEPS = steps_of("a+ b+ a- b-")
CIRCUIT = plain_circuit((1, 1), STEPS)
STAND = run(CIRCUIT, plain_rest((1, 1), STEPS), (TURN_0, TURN_1))[-1]
# Piston 0 has come out, piston 1 was not sent.
SEEN = ((2, 0), (1, 0), (), (1, 1))
# Its in line is on, too; it isn't called; its out line is off; its valve is stuck.
STANDING = (("cam", 0, 0, 1), ("cam", 0, 1, 0), ("out", 1), ("valve", 1, 0))


def stands_from(circuit, stand):
    """All stands that come from a stand, settled anew, by events of pistons, by trying all; () if it is Restless."""
    try:
        found = [settled(circuit, stand)]
    except Restless:
        return []
    for here in found:
        for p, _ in can_go(circuit, here):
            try:
                behind = after(circuit, here, ("go", p))
            except Restless:
                continue
            if behind not in found:
                found.append(behind)
    return found


def standing_faults(circuit, stand, seen):
    """The faults of which there is a paper, by trying all."""
    return tuple(
        fault for fault in faults_of(circuit)
        if can_go(circuit, seen) == () and seen in stands_from(hurt(circuit, fault), stand)
    )


def most_stands(circuit, stand):
    return max(len(stands_from(hurt(circuit, fault), stand)) for fault in faults_of(circuit))


class FaultByTest(unittest.TestCase):
    def let_by(self, paper, circuit=CIRCUIT, stand=STAND, seen=SEEN):
        made_stand(circuit, stand)
        made_stand(circuit, seen)
        self.assertIs(fault_by(circuit, stand, seen, paper), True)

    def refused(self, paper, circuit=CIRCUIT, stand=STAND, seen=SEEN):
        self.assertIs(fault_by(circuit, stand, seen, paper), False)

    def test_papers_that_are_let_by(self):
        for fault in STANDING:
            self.let_by((fault, (GO_0, GO_0)))

    def test_papers_of_each_form_of_fault(self):
        circuit = group_circuit((1, 1), STEPS, (0, 2))
        rest = put(group_rest((1, 1), STEPS, (0, 2)), (3,), (1, 1))
        begin = settled(circuit, rest)
        # Nothing has gone at all.
        for fault, seen in (
            (("on", 0), ((0, 0), (0, 0), (0, 1), (1, 1))), (("mark", 0, 0), ((0, 0), (0, 0), (0, 1), (1, 1))),
            (("out", 0), ((0, 0), (0, 0), (1, 0), (1, 1))), (("valve", 0, 0), ((0, 0), (0, 0), (1, 0), (1, 1))),
        ):
            self.let_by((fault, ()), circuit, rest, seen)
        out = (GO_0, GO_0, GO_1, GO_1)
        for fault, seen in (
            (("in", 0), ((2, 2), (1, 1), (0, 1), (1, 1))), (("valve", 0, 1), ((2, 2), (1, 1), (0, 1), (1, 1))),
            (("on", 1), ((2, 2), (1, 1), (1, 0), (1, 1))), (("cam", 1, 1, 0), ((2, 2), (1, 1), (1, 0), (1, 1))),
            (("off", 0), ((2, 2), (1, 1), (1, 1), (1, 1))), (("mark", 0, 1), ((2, 2), (1, 1), (1, 1), (1, 1))),
        ):
            self.let_by((fault, out), circuit, begin, seen)
            self.refused((fault, out[:-1]), circuit, begin, seen)

    def test_any_order_of_the_events(self):
        steps = steps_of("a+b+ a-b-")
        circuit = plain_circuit((1, 1), steps)
        begin = run(circuit, plain_rest((1, 1), steps), (TURN_0, TURN_1))[-1]
        seen = ((2, 2), (1, 0), (), (1, 1))
        self.refused((("in", 0), (GO_0, GO_0, GO_1, GO_1)), circuit, begin, seen)
        seen = ((2, 0), (1, 0), (), (1, 1))
        for events in ((GO_0, GO_0, GO_1, GO_1, GO_1, GO_1), (GO_1, GO_0, GO_1, GO_0, GO_1, GO_1)):
            self.let_by((("in", 0), events), circuit, begin, seen)
        self.refused((("in", 0), (GO_1, GO_1, GO_1, GO_1, GO_0, GO_0)), circuit, begin, seen)

    def test_no_events_where_the_machine_stands_at_once(self):
        begin = plain_rest((1, 1), STEPS)
        for fault in (("cam", 0, 1, 0), ("out", 0), ("in", 1), ("valve", 0, 0), ("valve", 1, 0)):
            self.let_by((fault, ()), CIRCUIT, begin, begin)
        self.refused((("valve", 0, 1), ()), CIRCUIT, begin, begin)

    def test_an_event_that_is_none_in_the_hurt_circuit(self):
        self.refused((("out", 0), (GO_0, GO_0)))
        for event in (GO_1, ("go", 2), ("go", -1)):
            self.refused((("out", 1), (event, GO_0, GO_0)))
            self.refused((("out", 1), (GO_0, event, GO_0)))
            self.refused((("out", 1), (GO_0, GO_0, event)))
        for fault in (("cam", 1, 0, 0), ("valve", 0, 0)):
            self.refused((fault, (GO_0, GO_0)))

    def test_a_fault_that_leads_elsewhere(self):
        for fault in faults_of(CIRCUIT):
            told = fault in STANDING
            self.assertIs(fault_by(CIRCUIT, STAND, SEEN, (fault, (GO_0, GO_0))), told, fault)

    def test_an_event_of_a_key(self):
        for fault in STANDING:
            for turns in ((TURN_0, TURN_0), (TURN_1, TURN_1)):
                # These are runs to the very same stand.
                broken = hurt(CIRCUIT, fault)
                self.assertEqual(run(broken, settled(broken, STAND), turns + (GO_0, GO_0))[-1], SEEN)
                self.refused((fault, turns + (GO_0, GO_0)))
                self.refused((fault, (GO_0, GO_0) + turns))
            self.refused((fault, (GO_0, GO_0, TURN_1)), seen=((2, 0), (1, 0), (), (1, 0)))
            self.refused((fault, (GO_0, GO_0)), seen=((2, 0), (1, 0), (), (1, 0)))

    def test_an_event_that_is_restless(self):
        # The memory blinks for ever while piston 0 is out.
        circuit = made_circuit(((1,), ((OFF, OFF),), (blinker(("cam", 0, 1)),), 0))
        stand = ((0,), (1,), (0,), ())
        for mark in (0, 1):
            self.refused((("out", 0), (GO_0, GO_0)), circuit, stand, ((2,), (1,), (mark,), ()))
            self.let_by((("mark", 0, mark), (GO_0, GO_0)), circuit, stand, ((2,), (1,), (mark,), ()))
        self.let_by((("on", 0), (GO_0, GO_0)), circuit, stand, ((2,), (1,), (0,), ()))
        self.refused((("out", 0), (GO_0, GO_0, GO_0)), circuit, stand, ((2,), (1,), (0,), ()))

    def test_events_too_few(self):
        for fault in STANDING:
            self.refused((fault, ()))
            self.refused((fault, (GO_0,)))
            # Even if it is seen so: something can still go.
            self.refused((fault, ()), seen=STAND)
            self.refused((fault, (GO_0,)), seen=((1, 0), (1, 0), (), (1, 1)))

    def test_events_too_many(self):
        for fault in STANDING:
            self.refused((fault, (GO_0, GO_0, GO_0)))
            self.refused((fault, (GO_0,) * 10))

    def test_another_seen_stand(self):
        for seen in (
            ((2, 2), (1, 1), (), (1, 1)), ((0, 0), (0, 0), (), (1, 1)), ((2, 0), (1, 1), (), (1, 1)),
            ((2, 0), (0, 0), (), (1, 1)), ((2, 0), (1, 0), (), (0, 1)), ((1, 0), (1, 0), (), (1, 1)),
        ):
            for fault in faults_of(CIRCUIT):
                self.refused((fault, (GO_0, GO_0)), seen=made_stand(CIRCUIT, seen))

    def test_other_marks_in_the_seen_stand(self):
        circuit = plain(1, 1)
        stand = ((0,), (1,), (0,), ())
        self.let_by((("mark", 0, 1), (GO_0, GO_0)), circuit, stand, ((2,), (1,), (1,), ()))
        self.refused((("mark", 0, 1), (GO_0, GO_0)), circuit, stand, ((2,), (1,), (0,), ()))

    def test_a_fault_that_is_none(self):
        for fault in (
            ("out", 2), ("on", 0), ("cam", 0, 1, 2), ("cam", 0, 2, 0), ("out", True), ("cam", 0, True, 0), ["out", 1],
            ("out",), ("out", 1, 0), ("none",), (), None, "out",
        ):
            self.refused((fault, (GO_0, GO_0)))

    def test_a_begin_that_is_restless_in_the_hurt_circuit(self):
        circuit = made_circuit(((1,), ((OFF, OFF),), (blinker(("cam", 0, 1)),), 0))
        stand = ((0,), (0,), (0,), ())
        self.assertIs(is_settled(circuit, stand), True)
        for events in ((), (GO_0,), None):
            for mark in (0, 1):
                self.refused((("cam", 0, 1, 1), events), circuit, stand, ((0,), (0,), (mark,), ()))
        self.let_by((("cam", 0, 1, 0), ()), circuit, stand, stand)

    def test_a_begin_that_is_not_settled(self):
        stand = made_stand(CIRCUIT, ((0, 0), (0, 0), (), (1, 1)))
        self.assertIs(is_settled(CIRCUIT, stand), False)
        self.let_by((("out", 1), (GO_0, GO_0)), stand=stand)
        self.let_by((("out", 0), ()), stand=stand, seen=stand)

    def test_the_begin_is_settled_anew_in_the_hurt_circuit(self):
        # Settled in the circuit itself piston 0 would be sent out.
        stand = ((0, 0), (1, 0), (), (1, 1))
        self.assertIs(is_settled(CIRCUIT, stand), True)
        seen = ((0, 0), (0, 0), (), (1, 1))
        self.let_by((("valve", 0, 0), ()), stand=stand, seen=seen)
        # A line that is off leaves the valve where it is.
        self.refused((("out", 0), ()), stand=stand, seen=seen)

    def test_at_most_1200_events(self):
        # Piston 0 goes out and in until piston 1, which may go whenever it will, is out.
        free = ("not", ("cam", 1, 1))
        pilots = ((("and", (("cam", 0, 0), free)), ("and", (("cam", 0, 1), free))), (OFF, OFF))
        circuit = made_circuit(((1, 1), pilots, (), 0))
        out = ((2, 2), (1, 1), (), ())
        self.let_by((("out", 1), (GO_0,) * 1196 + (GO_1, GO_1, GO_0, GO_0)), circuit, ((0, 0), (1, 1), (), ()), out)
        self.refused((("out", 1), (GO_0,) * 1200 + (GO_1, GO_1, GO_0, GO_0)), circuit, ((0, 0), (1, 1), (), ()), out)
        stand, seen = ((0, 1), (1, 1), (), ()), ((0, 2), (0, 1), (), ())
        self.let_by((("out", 1), (GO_0,) * 1194 + (GO_1, GO_0, GO_0)), circuit, stand, seen)
        self.refused((("out", 1), (GO_0,) * 1198 + (GO_1, GO_0, GO_0)), circuit, stand, seen)

    def test_other_lengths_and_lists(self):
        right = (("out", 1), (GO_0, GO_0))
        self.let_by(right)
        for paper in (
            list(right), right[:1], right[1:], right + ((),), right + right, (), (right,), right[::-1],
            (("out", 1), [GO_0, GO_0]), (["out", 1], (GO_0, GO_0)), (("out", 1), GO_0), (("out", 1), ["go", 0]),
            (("out", 1), (GO_0, ["go", 0])), (("out", 1), (GO_0, ("go", 0, 0))), (("out", 1), (GO_0, ("go", False))),
            (("out", 1), (GO_0, (b"go", 0))), (("out", 1), "go"), (("out", 1), None), (("out", 1), {}),
        ):
            self.refused(paper)

    def test_things_of_other_kinds(self):
        paper = (("out", 1), (GO_0, GO_0))
        for path in ((), (0,), (0, 0), (0, 1), (1,), (1, 0), (1, 1), (1, 0, 0), (1, 1, 1)):
            for thing in nowhere():
                self.refused(put(paper, path, thing))

    def test_anything(self):
        for thing in anything():
            self.refused(thing)
            self.refused((thing, (GO_0, GO_0)))
            self.refused((("out", 1), thing))
            self.refused((("out", 1), (thing, GO_0, GO_0)))
            self.refused((("out", 1), (GO_0, GO_0, thing)))
            self.refused((thing, thing))

    def test_arguments_are_left_alone_and_answers_are_equal(self):
        things = not_deep() + [[("out", 1), (GO_0, GO_0)], (("out", 1), [GO_0, GO_0])]
        kept = Unchanged(things)
        for thing in things:
            for _ in range(2):
                self.refused(thing)
        self.assertTrue(kept.holds())


class FaultsForTest(Refusals, unittest.TestCase):
    def told(self, circuit, stand, seen):
        """The faults that are told; each has one paper, which is let by, and they rise."""
        papers = faults_for(made_circuit(circuit), made_stand(circuit, stand), made_stand(circuit, seen))
        self.assertIsInstance(papers, tuple)
        self.assertEqual(papers, tuple(sorted(papers)))
        for paper in papers:
            self.assertIs(fault_by(circuit, stand, seen, paper), True)
        faults = tuple(fault for fault, events in papers)
        self.assertEqual(len(set(faults)), len(faults))
        return faults

    def test_the_faults_of_a_small_circuit(self):
        self.assertEqual(self.told(CIRCUIT, STAND, SEEN), STANDING)

    def test_all_stands_that_come_in_hurt_circuits(self):
        many = 0
        for sections, steps in some_rounds()[2:9]:
            circuit = group_circuit(sections, steps, fewest_cut(steps))
            rest = group_rest(sections, steps, fewest_cut(steps))
            stand = run(circuit, rest, (TURN_0, TURN_1))[-1]
            stands = [here for fault in faults_of(circuit) for here in stands_from(hurt(circuit, fault), stand)]
            still = [here for here in sorted(set(stands)) if can_go(circuit, here) == ()]
            for seen in still[::3]:
                faults = self.told(circuit, stand, seen)
                self.assertEqual(faults, standing_faults(circuit, stand, seen))
                self.assertGreater(len(faults), 0)
                many += 1
        self.assertGreater(many, 15)

    def test_none_for_a_seen_stand_in_which_something_can_go(self):
        for seen in stands_from(CIRCUIT, STAND):
            self.assertNotEqual(can_go(CIRCUIT, seen), ())
            self.assertEqual(self.told(CIRCUIT, STAND, seen), ())
        self.assertEqual(self.told(CIRCUIT, STAND, ((1, 1), (0, 1), (), (1, 1))), ())

    def test_none_for_a_stand_that_does_not_come(self):
        for seen in (((2, 0), (1, 0), (), (1, 0)), ((0, 2), (0, 1), (), (0, 1)), ((2, 2), (1, 1), (), (0, 0))):
            self.assertEqual(can_go(CIRCUIT, seen), ())
            self.assertEqual(self.told(CIRCUIT, STAND, seen), ())

    def test_a_fault_that_changes_nothing_has_a_paper_too(self):
        begin = plain_rest((1, 1), STEPS)
        sent_at_once = (("valve", 0, 1), ("valve", 1, 1))
        for fault in faults_of(CIRCUIT):
            self.assertEqual(fault in self.told(CIRCUIT, begin, begin), fault not in sent_at_once)

    def test_the_begin_is_settled_anew_in_the_hurt_circuit(self):
        # Stuck, the valve goes back at once; with its line off, it sends the piston around this once.
        seen = ((0, 0), (0, 0), (), (1, 1))
        papers = dict(faults_for(CIRCUIT, STAND, seen))
        self.assertEqual(papers["valve", 0, 0], ())
        self.assertEqual(papers["out", 0], (GO_0, GO_0, GO_1, GO_1) * 2)
        # From a begin that isn't settled the valve hasn't been sent yet.
        begin = ((0, 0), (0, 0), (), (1, 1))
        self.assertEqual(dict(faults_for(CIRCUIT, begin, seen))["out", 0], ())
        self.assertEqual(self.told(CIRCUIT, begin, seen), standing_faults(CIRCUIT, begin, seen))

    def test_a_begin_or_an_event_that_is_restless(self):
        circuit = made_circuit(((1,), ((OFF, OFF),), (blinker(("cam", 0, 1)),), 0))
        begin = ((0,), (0,), (0,), ())
        faults = self.told(circuit, begin, begin)
        self.assertEqual(faults, standing_faults(circuit, begin, begin))
        self.assertIn(("cam", 0, 1, 0), faults)
        self.assertNotIn(("cam", 0, 1, 1), faults)
        stand = ((0,), (1,), (0,), ())
        self.assertEqual(
            self.told(circuit, stand, ((2,), (1,), (0,), ())), (("cam", 0, 1, 0), ("mark", 0, 0), ("on", 0)),
        )

    def test_just_200_stands(self):
        circuit = made_circuit(((4, 2, 2),) + plain(3)[1:])
        stand, seen = ((1, 0, 0), (1, 1, 1), (), ()), ((8, 4, 4), (1, 1, 1), (), ())
        self.assertEqual(most_stands(circuit, stand), 200)
        faults = self.told(circuit, stand, seen)
        self.assertEqual(faults, tuple(
            fault for fault in faults_of(circuit) if fault not in (("valve", 0, 0), ("valve", 1, 0), ("valve", 2, 0))
        ))
        self.assertEqual(self.told(circuit, stand, ((0, 4, 4), (0, 1, 1), (), ())), (("valve", 0, 0),))
        self.assertEqual(self.told(circuit, stand, stand), ())

    def test_just_201_stands(self):
        circuit, stand = just_201()
        self.assertEqual(most_stands(circuit, stand), 201)
        still = [here for here in stands_from(circuit, stand) if can_go(circuit, here) == ()]
        self.assertGreater(len(still), 0)
        for seen in still + [stand, ((0, 0, 8), (0, 0, 1), (), ())]:
            self.assert_only(TooGreat, faults_for, circuit, stand, seen)

    def test_too_great_for_a_single_fault(self):
        # The machine stands still, unless a cam is stuck that is never pressed: then all go out.
        cam = ("and", (("cam", 3, 1), ("cam", 3, 0)))
        circuit = made_circuit(((4, 3, 3, 1), ((cam, OFF), (cam, OFF), (cam, OFF), (OFF, OFF)), (), 0))
        stand = ((0, 0, 0, 0), (0, 0, 0, 0), (), ())
        great = [fault for fault in faults_of(circuit) if len(stands_from(hurt(circuit, fault), stand)) > 200]
        self.assertEqual(great, [("cam", 3, 1, 1)])
        self.assertIs(fault_by(circuit, stand, stand, (("out", 0), ())), True)
        # Whether a fault has a paper or not, that one too, and whether something can go in the seen stand.
        for seen in (
            stand, ((8, 6, 6, 0), (1, 1, 1, 0), (), ()), ((0, 0, 0, 2), (0, 0, 0, 1), (), ()),
            ((0, 0, 0, 1), (0, 0, 0, 1), (), ()), ((1, 0, 0, 0), (1, 1, 1, 0), (), ()),
        ):
            self.assert_only(TooGreat, faults_for, circuit, stand, made_stand(circuit, seen))

    def test_keys_are_not_turned(self):
        # With its key turned all would go, and too far.
        key = ("key", 0)
        circuit = made_circuit(((4, 3, 3), ((key, OFF),) * 3, (), 1))
        stand = ((0, 0, 0), (0, 0, 0), (), (0,))
        self.assertEqual(self.told(circuit, stand, stand), tuple(
            fault for fault in faults_of(circuit) if fault[0] != "valve" or fault[2] == 0
        ))
        self.assert_only(TooGreat, faults_for, circuit, put(stand, (3,), (1,)), stand)

    def test_arguments_are_left_alone_and_answers_are_equal(self):
        things = [CIRCUIT, STAND, SEEN]
        kept = Unchanged(things)
        self.assertEqual(faults_for(*things), faults_for(*things))
        self.assertTrue(kept.holds())


def just_201():
    """A circuit and a stand from which with some faults 201 stands come, and with none of them more."""
    pilots = (
        (("and", (("cam", 1, 0), ("cam", 2, 4))), OFF),
        (OFF, ("and", (("cam", 0, 0), ("cam", 2, 4)))),
        (OFF, ("cam", 1, 0)),
    )
    return made_circuit(((1, 3, 4), pilots, (), 0)), ((0, 1, 0), (1, 1, 1), (), ())


if __name__ == "__main__":
    unittest.main()

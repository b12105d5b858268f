"""Point 3: each sentence of the promise over the whole program, for some rounds."""

import itertools
import unittest

from pistonrounds.alikepapers import alike_by, apart_by
from pistonrounds.answering import settled
from pistonrounds.back import read_back
from pistonrounds.circuits import made_circuit
from pistonrounds.clashes import clashes
from pistonrounds.coded import coded_circuit, coded_rest
from pistonrounds.cuts import fewest_cut, is_cut
from pistonrounds.errors import Restless
from pistonrounds.events import can_go, events_of
from pistonrounds.faults import faults_of, hurt
from pistonrounds.finding import fault_by, faults_for
from pistonrounds.goingpapers import goes_by, wrong_by
from pistonrounds.groups import group_circuit, group_rest
from pistonrounds.led import led_circuit, led_paper, led_round, led_stand
from pistonrounds.needs import marks_needed
from pistonrounds.pairs import compare
from pistonrounds.plain import plain_circuit, plain_rest
from pistonrounds.runs import run
from pistonrounds.walks import walk
from tests.some_rounds import cuts_of, rows_from, small_rounds, some_rounds, steps_of
from tests.things import OFF, ON

TURNS = (("turn", 0), ("turn", 1))


def rounds():
    """Rounds with few enough rows, of one to three pistons."""
    return [((1, 2), steps) for steps in small_rounds()[::4]] + some_rounds()[2:10]


def made_circuits(sections, steps):
    """Each circuit with its rest that is made of the round by a cut, and the plain one where nothing clashes."""
    made = []
    for cut in cuts_of(steps):
        made.append((group_circuit(sections, steps, cut), group_rest(sections, steps, cut)))
        made.append((coded_circuit(sections, steps, cut), coded_rest(sections, steps, cut)))
    if clashes(sections, steps) == ():
        made.append((plain_circuit(sections, steps), plain_rest(sections, steps)))
    return made


def short_runs(circuit, stand, most):
    """All runs of at most so many events, and those that end in a Restless one."""
    runs = [()]
    for events in runs:
        yield events
        if len(events) < most:
            try:
                here = run(circuit, stand, events)[-1]
            except Restless:
                continue
            runs.extend(events + (event,) for event in events_of(circuit, here))


class PromiseTest(unittest.TestCase):
    def test_circuits_made_of_a_round_go_it(self):
        for sections, steps in rounds():
            for circuit, rest in made_circuits(sections, steps):
                paper = walk(circuit, steps, rest)
                self.assertEqual(paper[0], "goes")
                self.assertIs(goes_by(circuit, steps, rest, paper), True)

    def test_so_do_greater_ones(self):
        sections, steps = (2, 3, 3), steps_of("a+b+c+ a- b-c- b+ a+ b- a-")
        for cut in (fewest_cut(steps), (0, 1, 2, 3, 5, 6)):
            self.assertIs(is_cut(steps, cut), True)
            for make, rest in ((group_circuit, group_rest), (coded_circuit, coded_rest)):
                circuit = make(sections, steps, cut)
                self.assertGreater(len(rows_from(circuit, steps, rest(sections, steps, cut))), 1000)

    def test_there_is_a_paper_of_either_kind_and_never_both(self):
        told = {"goes": 0, "wrong": 0}
        for sections, steps in rounds():
            for other in (steps, steps[1:] + steps[:1]):
                circuit, rest = plain_circuit(sections, other), plain_rest(sections, steps)
                word, parts = walk(circuit, steps, rest)
                told[word] += 1
                self.assertEqual(word == "goes", rows_from(circuit, steps, rest) is not None)
                for events in short_runs(circuit, rest, 3):
                    if word == "goes":
                        self.assertIs(wrong_by(circuit, steps, rest, ("wrong", events)), False)
        self.assertGreater(min(told.values()), 10)

    def test_the_told_cut_has_the_fewest_groups(self):
        for sections, steps in rounds() + some_rounds():
            self.assertEqual(len(fewest_cut(steps)), min(len(cut) for cut in cuts_of(steps)))

    def test_no_circuit_with_fewer_memories_than_are_needed_goes_a_round(self):
        # All circuits without a memory, of these lines, for a round that needs one.
        steps = steps_of("a+ a- b+ b-")
        self.assertEqual(marks_needed((1, 1), steps), 1)
        cams = [("cam", p, j) for p in (0, 1) for j in (0, 1)]
        lines = [("and", pair) for pair in itertools.combinations(cams, 2)] + cams + [ON, OFF]
        stand = ((0, 0), (1, 0), (), ())
        for a_out, a_in, b_out, b_in in itertools.product(lines, repeat=4):
            # No other pair of lines lets piston 0 begin alone.
            if a_out in (cams[0], cams[2], ("and", (cams[0], cams[2])), ON, OFF):
                circuit = ((1, 1), ((a_out, a_in), (b_out, b_in)), (), 0)
                self.assertIs(has_gone(circuit, stand, (0, 0, 0, 0, 1, 1, 1, 1)), False)
        for sections, steps in rounds():
            for circuit, _ in made_circuits(sections, steps):
                self.assertGreaterEqual(len(circuit[2]), marks_needed(sections, steps))

    def test_circuits_made_of_one_round_are_alike(self):
        for sections, steps in rounds():
            made = made_circuits(sections, steps)
            for one, other in list(zip(made, made[1:] + made[:1]))[::2]:
                self.assertEqual(compare(*one, *other)[0], "alike")

    def test_there_is_a_paper_of_being_alike_or_of_parting_and_never_both(self):
        told = {"alike": 0, "apart": 0}
        for sections, steps in rounds():
            one = (plain_circuit(sections, steps), plain_rest(sections, steps))
            other = made_circuits(sections, steps)[0]
            paper = compare(*one, *other)
            told[paper[0]] += 1
            self.assertIs(alike_by(*one, *other, paper), paper[0] == "alike")
            self.assertIs(apart_by(*one, *other, paper), paper[0] == "apart")
            if paper[0] == "alike":
                for events in short_runs(*one, 3):
                    self.assertIs(apart_by(*one, *other, ("apart", events)), False)
        self.assertGreater(min(told.values()), 3)

    def test_read_back_a_circuit_made_by_a_cut_tells_its_round(self):
        for sections, steps in rounds():
            for circuit, rest in made_circuits(sections, steps):
                self.assertEqual(read_back(circuit, run(circuit, rest, TURNS)[-1]), steps)

    def test_each_fault_that_is_told_leaves_the_machine_standing_so(self):
        many = 0
        for sections, steps in rounds()[::4]:
            circuit, rest = made_circuits(sections, steps)[1]
            stand = run(circuit, rest, TURNS)[-1]
            for fault in faults_of(circuit)[::5]:
                seen = standing(hurt(circuit, fault), stand)
                if seen is not None:
                    papers = faults_for(circuit, stand, seen)
                    self.assertIn(fault, [paper[0] for paper in papers])
                    for paper in papers:
                        self.assertIs(fault_by(circuit, stand, seen, paper), True)
                        broken = hurt(circuit, paper[0])
                        self.assertEqual(run(broken, settled(broken, stand), paper[1])[-1], seen)
                    many += 1
            self.assertNotEqual(can_go(circuit, stand), ())
            self.assertEqual(faults_for(circuit, stand, stand), ())
        self.assertGreater(many, 20)

    def test_papers_that_are_led_over_are_let_by(self):
        for sections, steps in rounds():
            names = tuple(range(len(sections)))[::-1]
            made = made_circuits(sections, steps)
            (one, stand), (other, beside) = made[0], made[-1]
            led_one, led_other = led_circuit(one, names), led_circuit(other, names)
            led_steps, led_first = led_round(steps, names), led_stand(stand, names)
            paper = led_paper(walk(one, steps, stand), names)
            self.assertIs(goes_by(made_circuit(led_one), led_steps, led_first, paper), True)
            paper = led_paper(compare(one, stand, other, beside), names)
            self.assertIs(alike_by(led_one, led_first, led_other, led_stand(beside, names), paper), True)


def has_gone(circuit, stand, pistons):
    """Whether from the stand, settled, just these pistons can go, one behind another, and then it stands so again."""
    try:
        first = here = settled(circuit, stand)
        for p in pistons:
            if [mover for mover, side in can_go(circuit, here)] != [p]:
                return False
            here = run(circuit, here, (("go", p),))[-1]
    except Restless:
        return False
    return here == first


def standing(circuit, stand):
    """The stand in which the least pistons' going ends, within 60 events; else None."""
    try:
        here = settled(circuit, stand)
        for _ in range(60):
            going = can_go(circuit, here)
            if going == ():
                return here
            here = run(circuit, here, (("go", going[0][0]),))[-1]
    except Restless:
        return None
    return None


if __name__ == "__main__":
    unittest.main()

"""Points 2, 3 and 33: pistons that are called otherwise."""

import itertools
import unittest

from pistonrounds.alikepapers import alike_by, apart_by
from pistonrounds.circuits import counted, made_circuit
from pistonrounds.clashes import clashes
from pistonrounds.coded import coded_circuit, coded_rest
from pistonrounds.cuts import fewest_cut
from pistonrounds.events import after
from pistonrounds.faults import faults_of, hurt
from pistonrounds.finding import fault_by, faults_for
from pistonrounds.goingpapers import goes_by, wrong_by
from pistonrounds.groups import chain_cut, group_circuit, group_rest
from pistonrounds.led import led_circuit, led_fault, led_paper, led_round, led_sections, led_stand
from pistonrounds.pairs import compare
from pistonrounds.plain import plain_circuit, plain_rest
from pistonrounds.rounds import between, made_round
from pistonrounds.runs import run
from pistonrounds.stands import made_stand
from pistonrounds.walks import walk
from tests.some_rounds import OUT_SECTIONS, OUT_STEPS, SECTIONS, STEPS, some_rounds, steps_of
from tests.things import OFF, ON, Unchanged

# Piston 0 is called 2, piston 1 is called 0, piston 2 is called 1.
NAMES = (2, 0, 1)
TURN_0, TURN_1 = ("turn", 0), ("turn", 1)


def same(many):
    """Names that change nothing."""
    return tuple(range(many))


def back_again(names):
    """The names that lead back."""
    return tuple(names.index(p) for p in range(len(names)))


def several_names(many):
    """Names that change nothing, some that do, and their ways back."""
    told = list(itertools.permutations(range(many)))[::1 if many < 4 else 1 + 7 ** (many - 3)]
    return told + [back_again(names) for names in told]


class SectionsTest(unittest.TestCase):
    def test_led_over(self):
        self.assertEqual(led_sections((1, 2, 3), NAMES), (2, 3, 1))
        self.assertEqual(led_sections((4, 3, 2, 1), (1, 0, 3, 2)), (3, 4, 1, 2))
        self.assertEqual(led_sections((4, 3, 2, 1), (3, 0, 1, 2)), (3, 2, 1, 4))

    def test_names_that_change_nothing(self):
        for sections in ((1,), (4, 1), (1, 2, 3), (1, 2, 3, 4, 1, 2)):
            self.assertEqual(led_sections(sections, same(len(sections))), sections)

    def test_there_and_back_again(self):
        for names in itertools.permutations(range(4)):
            led = led_sections((1, 2, 3, 4), names)
            self.assertEqual([led[names[p]] for p in range(4)], [1, 2, 3, 4])
            self.assertEqual(led_sections(led, back_again(names)), (1, 2, 3, 4))


class RoundTest(unittest.TestCase):
    def test_led_over(self):
        self.assertEqual(led_round(steps_of("a+ b+ c+ a- b- c-"), NAMES), steps_of("c+ a+ b+ c- a- b-"))

    def test_the_moves_of_a_step_rise_anew(self):
        self.assertEqual(led_round(steps_of("a+b+c- a-b-c+"), NAMES), steps_of("a+b-c+ a-b+c-"))
        self.assertEqual(led_round(steps_of("a+b- a-b+"), (1, 0)), steps_of("a-b+ a+b-"))
        self.assertEqual(led_round(steps_of("a-c+ b+ c- a+b-"), NAMES), steps_of("b+c- a+ b- a-c+"))

    def test_steps_keep_their_order(self):
        self.assertEqual(led_round(steps_of("b+ a+ b- a-"), (1, 0)), steps_of("a+ b+ a- b-"))

    def test_there_and_back_again(self):
        for sections, steps in some_rounds():
            self.assertEqual(led_round(steps, same(len(sections))), steps)
            for names in several_names(len(sections)):
                led = made_round(led_sections(sections, names), led_round(steps, names))
                self.assertEqual(led_round(led, back_again(names)), steps)
                for i in range(len(steps)):
                    ahead = between(led_sections(sections, names), led, i)
                    self.assertEqual([ahead[q] for q in names], list(between(sections, steps, i)))


class CircuitTest(unittest.TestCase):
    CIRCUIT = (
        (1, 2, 3),
        (
            (("cam", 0, 1), ("cam", 1, 2)),
            (("and", (("cam", 2, 3), ("mark", 0), ("cam", 0, 0), ("key", 2), ("cam", 1, 1))), ("not", ("cam", 2, 0))),
            (("or", (("not", ("and", (("cam", 1, 0), ON, ("cam", 0, 1)))), ("mark", 1))), OFF),
        ),
        ((("cam", 2, 1), ("mark", 1)), (("or", (("cam", 1, 2), ("cam", 0, 0))), ("not", ("not", ("key", 0))))),
        3,
    )
    LED = (
        (2, 3, 1),
        (
            (("and", (("cam", 1, 3), ("mark", 0), ("cam", 2, 0), ("key", 2), ("cam", 0, 1))), ("not", ("cam", 1, 0))),
            (("or", (("not", ("and", (("cam", 0, 0), ON, ("cam", 2, 1)))), ("mark", 1))), OFF),
            (("cam", 2, 1), ("cam", 0, 2)),
        ),
        ((("cam", 1, 1), ("mark", 1)), (("or", (("cam", 0, 2), ("cam", 2, 0))), ("not", ("not", ("key", 0))))),
        3,
    )

    def test_led_over(self):
        self.assertEqual(led_circuit(made_circuit(self.CIRCUIT), NAMES), made_circuit(self.LED))

    def test_names_that_change_nothing(self):
        self.assertEqual(led_circuit(self.CIRCUIT, (0, 1, 2)), self.CIRCUIT)

    def test_there_and_back_again(self):
        for names in itertools.permutations(range(3)):
            led = made_circuit(led_circuit(self.CIRCUIT, names))
            self.assertEqual(counted(led), counted(self.CIRCUIT))
            self.assertEqual(led_circuit(led, back_again(names)), self.CIRCUIT)

    def test_the_circuit_of_a_round_led_over_is_that_of_the_round_led_over_where_calls_are_of_one_move(self):
        steps = steps_of("a+ b+ a- a+ b- a-")
        for cut in (fewest_cut(steps), chain_cut(steps)):
            led = led_circuit(group_circuit((1, 2), steps, cut), (1, 0))
            self.assertEqual(led, group_circuit((2, 1), led_round(steps, (1, 0)), cut))


class StandTest(unittest.TestCase):
    def test_led_over(self):
        stand = ((0, 3, 6), (1, 0, 0), (1, 0), (0, 1, 1))
        self.assertEqual(led_stand(stand, NAMES), ((3, 6, 0), (0, 0, 1), (1, 0), (0, 1, 1)))
        self.assertEqual(led_stand(stand, same(3)), stand)

    def test_marks_and_keys_stay(self):
        stand = ((0, 1), (0, 1), (0, 1), (0, 1))
        self.assertEqual(led_stand(stand, (1, 0)), ((1, 0), (1, 0), (0, 1), (0, 1)))

    def test_there_and_back_again(self):
        stand = ((0, 1, 2, 3), (1, 0, 0, 1), (1,), ())
        for names in itertools.permutations(range(4)):
            self.assertEqual(led_stand(led_stand(stand, names), back_again(names)), stand)

    def test_what_comes_behind_events_is_led_over(self):
        circuit = group_circuit(SECTIONS, STEPS, chain_cut(STEPS))
        stand = group_rest(SECTIONS, STEPS, chain_cut(STEPS))
        names = (3, 1, 0, 2)
        led, beside = led_circuit(circuit, names), led_stand(stand, names)
        for event in (TURN_0, TURN_1, ("go", 0), ("go", 0), ("go", 1), ("go", 1), TURN_1):
            led_event = ("go", names[event[1]]) if event[0] == "go" else event
            stand, beside = after(circuit, stand, event), after(led, beside, led_event)
            self.assertEqual(made_stand(led, beside), led_stand(stand, names))


class PaperTest(unittest.TestCase):
    def test_rows_are_sorted_anew(self):
        first, second = ((0, 1), (1, 1), (), ()), ((1, 0), (1, 1), (), ())
        paper = ("goes", ((first, 0), (second, 0)))
        self.assertEqual(led_paper(paper, (1, 0)), paper)
        self.assertEqual(led_paper(paper, (0, 1)), paper)
        third = ((0, 2), (0, 1), (1,), (0, 1))
        self.assertEqual(
            led_paper(("goes", ((third, 3), (first, 7), (third, 1))), (1, 0)),
            ("goes", ((second, 7), (((2, 0), (1, 0), (1,), (0, 1)), 1), (((2, 0), (1, 0), (1,), (0, 1)), 3))),
        )

    def test_one_that_stands_twice_stays_twice(self):
        stand, led = ((0, 2), (0, 1), (), ()), ((2, 0), (1, 0), (), ())
        self.assertEqual(led_paper(("goes", ((stand, 1), (stand, 1))), (1, 0)), ("goes", ((led, 1), (led, 1))))
        self.assertEqual(led_paper(("alike", ((stand, led),) * 3), (1, 0)), ("alike", ((led, stand),) * 3))

    def test_pairs_are_sorted_anew(self):
        one, led_one = ((0, 1), (1, 0), (1, 0), (1,)), ((1, 0), (0, 1), (1, 0), (1,))
        other, led_other = ((1, 0), (1, 0), (), (0,)), ((0, 1), (0, 1), (), (0,))
        paper = ("alike", ((one, other), (one, one), (other, one)))
        self.assertEqual(
            led_paper(paper, (1, 0)), ("alike", ((led_other, led_one), (led_one, led_other), (led_one, led_one))),
        )

    def test_events_keep_their_order(self):
        events = (("go", 2), TURN_1, ("go", 0), ("turn", 2), ("go", 1), ("go", 0), TURN_0)
        led = (("go", 1), TURN_1, ("go", 2), ("turn", 2), ("go", 0), ("go", 2), TURN_0)
        for word in ("wrong", "apart"):
            self.assertEqual(led_paper((word, events), NAMES), (word, led))
            self.assertEqual(led_paper((word, led), back_again(NAMES)), (word, events))
            self.assertEqual(led_paper((word, events), same(3)), (word, events))

    def test_papers_without_parts(self):
        for word in ("goes", "wrong", "alike", "apart"):
            self.assertEqual(led_paper((word, ()), NAMES), (word, ()))

    def test_right_papers_of_going_and_of_not_going(self):
        told = {"goes": 0, "wrong": 0}
        for sections, steps in some_rounds()[2:13]:
            circuit, rest = plain_circuit(sections, steps), plain_rest(sections, steps)
            paper = walk(circuit, steps, rest)
            told[paper[0]] += 1
            for names in several_names(len(sections)):
                led = led_paper(paper, names)
                things = led_circuit(circuit, names), led_round(steps, names), led_stand(rest, names)
                self.assertIs(goes_by(*things, led), paper[0] == "goes")
                self.assertIs(wrong_by(*things, led), paper[0] == "wrong")
                self.assertEqual(led_paper(led, back_again(names)), paper)
        self.assertGreater(min(told.values()), 2)

    def test_right_papers_of_being_alike_and_of_parting(self):
        told = {"alike": 0, "apart": 0}
        for sections, steps in some_rounds()[2:9]:
            cut = fewest_cut(steps)
            one, stand = coded_circuit(sections, steps, cut), coded_rest(sections, steps, cut)
            for other, beside in (
                (group_circuit(sections, steps, cut), group_rest(sections, steps, cut)),
                (plain_circuit(sections, steps), plain_rest(sections, steps)),
            ):
                paper = compare(one, stand, other, beside)
                told[paper[0]] += 1
                for names in several_names(len(sections)):
                    led = led_paper(paper, names)
                    things = [led_circuit(one, names), led_stand(stand, names)]
                    things += [led_circuit(other, names), led_stand(beside, names)]
                    self.assertIs(alike_by(*things, led), paper[0] == "alike")
                    self.assertIs(apart_by(*things, led), paper[0] == "apart")
        self.assertGreater(min(told.values()), 2)

    def test_wrong_papers_stay_wrong(self):
        steps = steps_of("a+ b+ a- b-")
        circuit, rest = plain_circuit((1, 2), steps), plain_rest((1, 2), steps)
        word, rows = walk(circuit, steps, rest)
        things = led_circuit(circuit, (1, 0)), led_round(steps, (1, 0)), led_stand(rest, (1, 0))
        for paper in ((word, rows[1:]), (word, rows + rows[-1:]), (word, rows[:5]), (word, ((rest, 1),))):
            led = led_paper(paper, (1, 0))
            self.assertEqual(len(led[1]), len(paper[1]))
            self.assertIs(goes_by(*things, led), False)
        # Rows in another order are sorted anew.
        self.assertIs(goes_by(*things, led_paper((word, rows[::-1]), (1, 0))), True)


class FaultTest(unittest.TestCase):
    def test_each_form(self):
        for fault, led in (
            (("cam", 0, 1, 0), ("cam", 2, 1, 0)), (("cam", 1, 0, 1), ("cam", 0, 0, 1)),
            (("cam", 2, 3, 1), ("cam", 1, 3, 1)), (("valve", 0, 1), ("valve", 2, 1)), (("valve", 1, 0), ("valve",
            0, 0)),
            (("out", 2), ("out", 1)), (("out", 0), ("out", 2)), (("in", 1), ("in", 0)), (("in", 0), ("in", 2)),
        ):
            self.assertEqual(led_fault(fault, NAMES), led)
            self.assertEqual(led_fault(led, back_again(NAMES)), fault)
            self.assertEqual(led_fault(fault, same(3)), fault)

    def test_those_of_memories_stay(self):
        for fault in (("mark", 0, 1), ("mark", 11, 0), ("on", 0), ("on", 2), ("off", 1), ("off", 11)):
            self.assertEqual(led_fault(fault, NAMES), fault)

    def test_hurt_circuits_are_led_over(self):
        circuit = group_circuit(OUT_SECTIONS, OUT_STEPS, fewest_cut(OUT_STEPS))
        for names in itertools.permutations(range(3)):
            led = led_circuit(circuit, names)
            faults = [led_fault(fault, names) for fault in faults_of(circuit)]
            self.assertEqual(tuple(sorted(faults)), faults_of(led))
            for fault in faults_of(circuit)[::3]:
                self.assertEqual(hurt(led, led_fault(fault, names)), led_circuit(hurt(circuit, fault), names))

    def test_fault_papers_are_let_by_led_over(self):
        steps = steps_of("a+ b+ a- b-")
        circuit = plain_circuit((1, 2), steps)
        stand = run(circuit, plain_rest((1, 2), steps), (TURN_0, TURN_1))[-1]
        seen = ((2, 0), (1, 0), (), (1, 1))
        papers = faults_for(circuit, stand, seen)
        self.assertGreater(len(papers), 2)
        things = led_circuit(circuit, (1, 0)), led_stand(stand, (1, 0)), led_stand(seen, (1, 0))
        for fault, events in papers:
            led = led_paper(("wrong", events), (1, 0))[1]
            self.assertIs(fault_by(*things, (led_fault(fault, (1, 0)), led)), True)
            self.assertIs(fault_by(*things, (fault, events)), False)


class AllTest(unittest.TestCase):
    def test_there_are_as_many_clashes(self):
        for sections, steps in some_rounds():
            for names in several_names(len(sections)):
                led = clashes(led_sections(sections, names), led_round(steps, names))
                self.assertEqual(len(led), len(clashes(sections, steps)))

    def test_arguments_are_left_alone_and_answers_are_equal(self):
        steps = steps_of("a+ b+ c+ a- b- c-")
        circuit, rest = plain_circuit((1, 2, 3), steps), plain_rest((1, 2, 3), steps)
        for lead, thing in (
            (led_sections, (1, 2, 3)), (led_round, steps), (led_circuit, circuit), (led_stand, rest),
            (led_paper, walk(circuit, steps, rest)), (led_paper, ("wrong", (("go", 0), TURN_0))),
            (led_fault, ("out", 1)),
        ):
            things = [thing, NAMES]
            kept = Unchanged(things)
            self.assertEqual(lead(*things), lead(*things))
            self.assertTrue(kept.holds())


if __name__ == "__main__":
    unittest.main()

"""Points 2, 3 and 38: circuits by codes."""

import unittest

from pistonrounds.answering import is_settled
from pistonrounds.circuits import made_circuit
from pistonrounds.coded import coded_circuit, coded_rest
from pistonrounds.codes import code_marks
from pistonrounds.cuts import fewest_cut, is_cut
from pistonrounds.errors import NoCut, TooGreat
from pistonrounds.goingpapers import goes_by
from pistonrounds.groups import chain_cut, group_circuit, group_rest
from pistonrounds.needs import marks_needed
from pistonrounds.pairs import compare
from pistonrounds.plain import plain_rest
from pistonrounds.rounds import made_round
from pistonrounds.stands import made_stand
from pistonrounds.walks import walk
from tests.some_rounds import cuts_of, rows_from, small_rounds, some_rounds, steps_of
from tests.things import OFF, Refusals, Unchanged, anything, not_deep, nowhere

KEY_0, KEY_1 = ("key", 0), ("key", 1)
MARK_0, MARK_1 = ("mark", 0), ("mark", 1)
NOT_0, NOT_1 = ("not", MARK_0), ("not", MARK_1)


def both(*lines):
    return ("and", lines)


def either(*lines):
    return ("or", lines)


class LineByLineTest(unittest.TestCase):
    def check(self, sections, text, cut, pilots, memories):
        steps = made_round(sections, steps_of(text))
        self.assertIs(is_cut(steps, cut), True)
        told = coded_circuit(sections, steps, cut)
        self.assertEqual(told[1], pilots)
        self.assertEqual(told[2], memories)
        self.assertEqual(told, (sections, pilots, memories, 2))
        self.assertEqual(made_circuit(told), told)

    def test_two_groups(self):
        a_in, a_out, b_in, b_out = ("cam", 0, 0), ("cam", 0, 1), ("cam", 1, 0), ("cam", 1, 2)
        # Place 0 has the mark 0, place 1 the mark 1; group 0 begins with step 0.
        self.check(
            (1, 2), "a+ b+ b- a-", (0, 2),
            (
                (either(both(NOT_0, KEY_0)), either(both(MARK_0, b_in, KEY_0))),
                (either(both(NOT_0, a_out, KEY_0)), either(both(MARK_0, KEY_0))),
            ),
            ((either(both(NOT_0, b_out, KEY_0)), either(both(MARK_0, a_in, KEY_0, KEY_1))),),
        )

    def test_a_last_group_that_goes_on_at_step_0(self):
        a_in, a_out, b_in, b_out = ("cam", 0, 0), ("cam", 0, 1), ("cam", 1, 0), ("cam", 1, 2)
        # Step 0 is no begin: so it has its call and key 1 in the pilot itself, and no memory asks for key 1.
        self.check(
            (1, 2), "a+ a- b+ b-", (1, 3),
            (
                (either(both(MARK_0, b_in, KEY_1, KEY_0)), either(both(NOT_0, KEY_0))),
                (either(both(NOT_0, a_in, KEY_0)), either(both(MARK_0, KEY_0))),
            ),
            ((either(both(NOT_0, b_out, KEY_0)), either(both(MARK_0, a_out, KEY_0))),),
        )

    def test_three_groups_have_a_pass(self):
        a_in, a_out, b_in, b_out = ("cam", 0, 0), ("cam", 0, 1), ("cam", 1, 0), ("cam", 1, 1)
        # 00, 10, 11, and 01 as the pass: from group 2 to the pass with the call of group 0, from there on at once.
        self.check(
            (1, 1), "a+ b+ b- a-", (0, 2, 3),
            (
                (either(both(NOT_0, NOT_1, KEY_0)), either(both(MARK_0, MARK_1, KEY_0))),
                (either(both(NOT_0, NOT_1, a_out, KEY_0)), either(both(MARK_0, NOT_1, KEY_0))),
            ),
            (
                (
                    either(both(NOT_0, NOT_1, b_out, KEY_0)),
                    either(both(MARK_0, MARK_1, a_in, KEY_0, KEY_1)),
                ),
                (
                    either(both(MARK_0, NOT_1, b_in, KEY_0)),
                    either(both(NOT_0, MARK_1)),
                ),
            ),
        )

    def test_seven_groups_and_steps_of_several_moves(self):
        a_in, a_out, b_in, b_out = ("cam", 0, 0), ("cam", 0, 2), ("cam", 1, 0), ("cam", 1, 1)
        # 000, 100, 110, 010, 011, 111, 101, and 001 as the pass.
        self.check(
            (2, 1), "a+b- b+ a-b- a+ a-b+ a+ a-", (0, 1, 2, 3, 4, 5, 6),
            (
                (
                    either(
                        both(NOT_0, NOT_1, ("not", ("mark", 2)), KEY_0), both(NOT_0, MARK_1, ("not", ("mark",
                        2)), KEY_0),
                        both(MARK_0, MARK_1, ("mark", 2), KEY_0),
                    ),
                    either(
                        both(MARK_0, MARK_1, ("not", ("mark", 2)), KEY_0), both(NOT_0, MARK_1, ("mark", 2), KEY_0),
                        both(MARK_0, NOT_1, ("mark", 2), KEY_0),
                    ),
                ),
                (
                    either(
                        both(MARK_0, NOT_1, ("not", ("mark", 2)), KEY_0), both(NOT_0, MARK_1, ("mark", 2), KEY_0),
                    ),
                    either(
                        both(NOT_0, NOT_1, ("not", ("mark", 2)), KEY_0),
                        both(MARK_0, MARK_1, ("not", ("mark", 2)), KEY_0),
                    ),
                ),
            ),
            (
                (
                    either(
                        both(NOT_0, NOT_1, ("not", ("mark", 2)), a_out, b_in, KEY_0),
                        both(NOT_0, MARK_1, ("mark", 2), a_in, b_out, KEY_0),
                    ),
                    either(
                        both(MARK_0, MARK_1, ("not", ("mark", 2)), a_in, b_in, KEY_0),
                        both(MARK_0, NOT_1, ("mark", 2), a_in, KEY_0, KEY_1),
                    ),
                ),
                (
                    either(both(MARK_0, NOT_1, ("not", ("mark", 2)), b_out, KEY_0)),
                    either(both(MARK_0, MARK_1, ("mark", 2), a_out, KEY_0)),
                ),
                (
                    either(both(NOT_0, MARK_1, ("not", ("mark", 2)), a_out, KEY_0)),
                    either(both(NOT_0, NOT_1, ("mark", 2))),
                ),
            ),
        )

    def test_four_groups(self):
        a_in, a_out, b_in, b_out = ("cam", 0, 0), ("cam", 0, 1), ("cam", 1, 0), ("cam", 1, 3)
        # 00, 10, 11, 01, without a pass; piston 2 has no move.
        self.check(
            (1, 3, 1), "a+ a- b+ b-", (0, 1, 2, 3),
            (
                (either(both(NOT_0, NOT_1, KEY_0)), either(both(MARK_0, NOT_1, KEY_0))),
                (either(both(MARK_0, MARK_1, KEY_0)), either(both(NOT_0, MARK_1, KEY_0))),
                (OFF, OFF),
            ),
            (
                (either(both(NOT_0, NOT_1, a_out, KEY_0)), either(both(MARK_0, MARK_1, b_out, KEY_0))),
                (either(both(MARK_0, NOT_1, a_in, KEY_0)), either(both(NOT_0, MARK_1, b_in, KEY_0, KEY_1))),
            ),
        )

    def test_as_many_lines_as_may_stand_in_one(self):
        # 12 groups have 4 marks; with the call of all six pistons and both keys 12 lines stand in an and.
        sections, steps = (1, 2, 3, 4, 1, 1), steps_of("a+b+c+d+e+f+ a-b-c-d-e-f- " * 6)
        circuit = made_circuit(coded_circuit(sections, made_round(sections, steps), chain_cut(steps)))
        self.assertEqual(len(circuit[2]), 4)
        self.assertEqual(max(len(part[1]) for on, off in circuit[2] for line in (on, off) for part in line[1]), 12)


class RestTest(unittest.TestCase):
    def test_the_rest(self):
        steps = steps_of("a+ a- b+ b-")
        self.assertEqual(coded_rest((1, 2), steps, (1, 3)), ((0, 0), (0, 0), (1,), (0, 0)))
        self.assertEqual(coded_rest((1, 2), steps, (0, 1, 2, 3)), ((0, 0), (0, 0), (0, 1), (0, 0)))
        self.assertEqual(coded_rest((1, 2), steps, (0, 1, 3)), ((0, 0), (0, 0), (1, 1), (0, 0)))
        steps = steps_of("a- b- a+ b+")
        self.assertEqual(coded_rest((1, 2), steps, (0, 2)), ((2, 4), (1, 1), (1,), (0, 0)))

    def test_as_that_of_the_group_circuit_but_for_the_marks(self):
        for sections, steps in some_rounds():
            for cut in (fewest_cut(steps), chain_cut(steps)):
                circuit, rest = coded_circuit(sections, steps, cut), coded_rest(sections, steps, cut)
                made_stand(circuit, rest)
                self.assertIs(is_settled(circuit, rest), True)
                places, valves, _, keys = plain_rest(sections, steps)
                self.assertEqual((rest[0], rest[1], rest[3]), (places, valves, keys))
                self.assertEqual(len(rest[2]), code_marks(len(cut)))


class GoingTest(unittest.TestCase):
    def check(self, sections, steps, cut):
        """Goes the round, and is alike to the circuit by groups; tells whether papers could be written."""
        circuit, rest = made_circuit(coded_circuit(sections, steps, cut)), coded_rest(sections, steps, cut)
        self.assertLessEqual(marks_needed(sections, steps), len(circuit[2]))
        self.assertEqual(len(circuit[2]), code_marks(len(cut)))
        paper = walk(circuit, steps, rest)
        self.assertEqual(paper[0], "goes")
        self.assertIs(goes_by(circuit, steps, rest, paper), True)
        beside = group_circuit(sections, steps, cut), group_rest(sections, steps, cut)
        self.assertEqual(compare(circuit, rest, *beside)[0], "alike")

    def test_all_cuts_of_small_rounds(self):
        many = 0
        for steps in small_rounds()[::3]:
            for cut in cuts_of(steps):
                self.check((2, 1), steps, cut)
                many += 1
        self.assertGreater(many, 60)

    def test_all_cuts_of_some_rounds(self):
        for sections, steps in some_rounds()[2:12]:
            for cut in cuts_of(steps)[::7]:
                self.check(sections, steps, cut)

    def test_greater_rounds(self):
        for sections, steps in some_rounds()[:2] + some_rounds()[12:]:
            for cut in (fewest_cut(steps), chain_cut(steps)):
                self.check(sections, steps, cut)

    def test_each_number_of_groups(self):
        steps = steps_of("a+ b+ a- a+ a- a+ a- b- a+ a- a+ a-")
        told = set()
        for cut in cuts_of(steps):
            if len(cut) not in told:
                self.check((1, 1), steps, cut)
                told.add(len(cut))
        for text in ("a+ a-", "a+ b+ a-b-", "a+ b+ a- b-", "a+ b+ a- b- c+ c-", "a+ a- a+ a- a+ b+ a-b-"):
            steps = steps_of(text)
            told.add(len(steps))
            self.check((1, 1, 1), steps, chain_cut(steps))
        for many in (9, 11):
            steps = steps_of("a+b+ a- b- " + "a+ a- " * ((many - 3) // 2))
            told.add(len(steps))
            self.check((1, 1), steps, chain_cut(steps))
        self.assertLessEqual({2, 3, 4, 6, 7, 9, 10, 11, 12}, told)

    def test_more_than_1000_rows(self):
        steps = steps_of("a+b+c+ a-b-c-")
        circuit, rest = coded_circuit((2, 4, 4), steps, (0, 1)), coded_rest((2, 4, 4), steps, (0, 1))
        self.assertGreater(len(rows_from(circuit, steps, rest)), 1000)
        with self.assertRaises(TooGreat):
            walk(circuit, steps, rest)


class NoCutTest(Refusals, unittest.TestCase):
    def setUp(self):
        self.steps = steps_of("a+ a- b+ b-")

    def refused(self, thing):
        self.assert_only(NoCut, coded_circuit, (1, 2), self.steps, thing)
        self.assert_only(NoCut, coded_rest, (1, 2), self.steps, thing)

    def test_no_cuts(self):
        for thing in (
            (), (0,), (1,), (0, 2), (3, 1), (1, 1, 3), (1, 3, 4), (-1, 1, 3), (True, 3), (1, 3, "3"), [1, 3], (1, [3]),
            ((1, 3),), "13", None, (0, 1, 2, 3, 4), {1: 3}, (1, None),
        ):
            self.refused(thing)

    def test_anything(self):
        for thing in anything():
            self.refused(thing)
        for thing in nowhere():
            self.refused((thing, 3))
            self.refused((1, thing))
            self.refused((1, 3, thing))

    def test_arguments_are_left_alone_and_answers_are_equal(self):
        things = not_deep() + [[1, 3], (1, [3])]
        kept = Unchanged(things)
        for thing in things:
            for _ in range(2):
                self.refused(thing)
        self.assertTrue(kept.holds())
        for make in (coded_circuit, coded_rest):
            self.assertEqual(make((1, 2), self.steps, (1, 3)), make((1, 2), self.steps, (1, 3)))


if __name__ == "__main__":
    unittest.main()

"""Points 3, 20 and 23: walks."""

import unittest

from pistonrounds.circuits import made_circuit
from pistonrounds.errors import TooGreat
from pistonrounds.goingpapers import goes_by, wrong_by
from pistonrounds.plain import plain_circuit, plain_rest
from pistonrounds.rounds import made_round
from pistonrounds.stands import made_stand
from pistonrounds.walks import walk
from tests.some_rounds import (
    ALONE, BLINKING, BLINKING_REST, STILL, just_1000, just_1001, rows_from, small_rounds, some_rounds, steps_of,
)
from tests.things import OFF, Refusals, Unchanged


class WalkTest(Refusals, unittest.TestCase):
    def goes(self, circuit, steps, stand):
        paper = walk(circuit, steps, stand)
        self.assertEqual(paper[0], "goes")
        self.assertIs(goes_by(circuit, steps, stand, paper), True)
        self.assertIs(wrong_by(circuit, steps, stand, paper), False)

    def is_wrong(self, circuit, steps, stand):
        paper = walk(circuit, steps, stand)
        self.assertEqual(paper[0], "wrong")
        self.assertIs(wrong_by(circuit, steps, stand, paper), True)
        self.assertIs(goes_by(circuit, steps, stand, paper), False)
        return paper

    def test_a_circuit_that_goes_the_round(self):
        steps = steps_of("a+ b+ a- b-")
        self.goes(plain_circuit((1, 2), steps), steps, plain_rest((1, 2), steps))

    def test_a_circuit_that_does_not(self):
        steps = steps_of("a+ a- b+ b-")
        self.is_wrong(plain_circuit((1, 2), steps), steps, plain_rest((1, 2), steps))

    def test_what_is_wrong_comes_behind_several_steps(self):
        # The circuit of another round, which begins alike: two turns and four goes later piston 0 is sent in.
        steps = steps_of("a+ b+ a- b-")
        circuit, rest = plain_circuit((1, 1), steps), plain_rest((1, 1), steps)
        paper = self.is_wrong(circuit, steps_of("a+ b+ b- a-"), rest)
        self.assertEqual(sorted(paper[1]), [("go", 0)] * 2 + [("go", 1)] * 2 + [("turn", 0), ("turn", 1)])

    def test_all_small_rounds_and_some_greater_ones(self):
        told = {"goes": 0, "wrong": 0}
        for sections, steps in [((1, 1), steps) for steps in small_rounds()] + some_rounds()[:12]:
            circuit, rest = plain_circuit(sections, steps), plain_rest(sections, steps)
            if rows_from(circuit, steps, rest) is None:
                told["wrong"] += 1
                self.is_wrong(circuit, steps, rest)
            else:
                told["goes"] += 1
                self.goes(circuit, steps, rest)
        self.assertGreater(min(told.values()), 10)

    def test_the_stand_and_0_are_no_row(self):
        steps = steps_of("a+ b+ a- b-")
        circuit = plain_circuit((1, 2), steps)
        for places, valves in (((2, 0), (1, 0)), ((0, 4), (0, 1)), ((0, 1), (0, 0)), ((2, 4), (1, 1))):
            stand = made_stand(circuit, (places, valves, (), (0, 0)))
            self.assertEqual(self.is_wrong(circuit, steps, stand), ("wrong", ()))

    def test_the_stand_and_0_are_a_row_but_not_a_right_one(self):
        circuit = made_circuit(((1, 2), ((OFF, OFF),) * 2, (), 1))
        steps = steps_of("a+ b+ a- b-")
        self.assertEqual(self.is_wrong(circuit, steps, ((0, 0), (0, 1), (), (0,))), ("wrong", ()))
        self.assertEqual(self.is_wrong(circuit, steps, ((0, 0), (0, 0), (), (1,))), ("wrong", ()))

    def test_a_wrong_paper_that_ends_in_a_restless_event(self):
        paper = self.is_wrong(made_circuit(BLINKING), made_round((1,), ALONE), BLINKING_REST)
        self.assertEqual(sorted(set(paper[1])), [("go", 0), ("turn", 0)])

    def test_nothing_wrong_but_restless(self):
        self.goes(made_circuit(STILL), ALONE, BLINKING_REST)

    def test_from_a_stand_within_step_0(self):
        steps = steps_of("a+b+ a-b-")
        circuit = plain_circuit((2, 1), steps)
        self.goes(circuit, steps, ((3, 0), (1, 1), (), (1, 0)))
        self.goes(circuit, steps, ((0, 1), (1, 1), (), (1, 1)))

    def test_just_1000_right_rows(self):
        circuit, steps, stand = just_1000()
        self.assertEqual(len(rows_from(circuit, steps, stand)), 1000)
        self.goes(circuit, steps, stand)

    def test_more_than_1000_right_rows(self):
        circuit, steps, stand = just_1001()
        self.assertEqual(len(rows_from(circuit, steps, stand)), 1001)
        self.assert_only(TooGreat, walk, circuit, steps, stand)
        steps = steps_of("a+b+ a-b-")
        circuit, rest = plain_circuit((4, 4), steps), plain_rest((4, 4), steps)
        self.goes(circuit, steps, rest)
        steps = steps_of("a+b+c+ a-b-c-")
        circuit, rest = plain_circuit((4, 4, 4), steps), plain_rest((4, 4, 4), steps)
        self.assert_only(TooGreat, walk, circuit, steps, rest)

    def test_arguments_are_left_alone_and_answers_are_equal(self):
        steps = steps_of("a+ b+ a- b-")
        things = [plain_circuit((1, 2), steps), steps, plain_rest((1, 2), steps)]
        kept = Unchanged(things)
        self.assertEqual(walk(*things), walk(*things))
        self.assertTrue(kept.holds())


if __name__ == "__main__":
    unittest.main()

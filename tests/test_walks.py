"""Points 3, 20 and 23: walks."""

import unittest

from pistonrounds.answering import settled
from pistonrounds.circuits import made_circuit
from pistonrounds.errors import TooGreat
from pistonrounds.goingpapers import goes_by, wrong_by
from pistonrounds.groups import chain_cut, group_circuit, group_rest
from pistonrounds.plain import plain_circuit, plain_rest
from pistonrounds.rounds import made_round
from pistonrounds.stands import made_stand
from pistonrounds.walks import walk
from tests.some_rounds import ALONE, BLINKING, BLINKING_REST, rows_from, small_rounds, some_rounds, steps_of
from tests.things import OFF, ON, Refusals, Unchanged


def without_keys(thing):
    """The lines within a nested tuple with each key's line always on."""
    if not isinstance(thing, tuple):
        return thing
    if thing[:1] == ("key",):
        return ON
    return tuple(without_keys(part) for part in thing)


def just_1000():
    """A circuit with one key that nothing hangs on, a round and a stand from which 1000 right rows come."""
    sections, steps = (1, 1, 3, 1), steps_of("a+c+d- a-b-c-d+ a+c+d- a-b+c-d+")
    sections, pilots, memories, _ = group_circuit(sections, steps, chain_cut(steps))
    circuit = made_circuit((sections, without_keys(pilots), without_keys(memories), 1))
    places, valves, marks, _ = group_rest(sections, steps, chain_cut(steps))
    return circuit, steps, settled(circuit, (places, valves, marks, (0,)))


def just_1001():
    """A circuit, a round and a stand from which 1001 right rows come."""
    sections, steps = (4, 3), steps_of("a+b- a-b+ a+b- a-b+")
    return group_circuit(sections, steps, chain_cut(steps)), steps, group_rest(sections, steps, chain_cut(steps))


class WalkTest(Refusals, unittest.TestCase):
    def goes(self, circuit, steps, stand):
        paper = walk(circuit, steps, stand)
        self.assertEqual(paper[0], "goes")
        self.assertIs(goes_by(circuit, steps, stand, paper), True)
        self.assertIs(wrong_by(circuit, steps, stand, paper), False)

    def is_wrong(self, circuit, steps, stand):
        paper = walk(circuit, steps, stand)
        self.assertEqual(paper[0], "wrong")
        self.assertIs(wrong_by(circuit, steps, stand, paper), True)
        self.assertIs(goes_by(circuit, steps, stand, paper), False)
        return paper

    def test_a_circuit_that_goes_the_round(self):
        steps = steps_of("a+ b+ a- b-")
        self.goes(plain_circuit((1, 2), steps), steps, plain_rest((1, 2), steps))

    def test_a_circuit_that_does_not(self):
        steps = steps_of("a+ a- b+ b-")
        self.is_wrong(plain_circuit((1, 2), steps), steps, plain_rest((1, 2), steps))

    def test_what_is_wrong_comes_behind_several_steps(self):
        # The circuit of another round, which begins alike: two turns and four goes later piston 0 is sent in.
        steps = steps_of("a+ b+ a- b-")
        circuit, rest = plain_circuit((1, 1), steps), plain_rest((1, 1), steps)
        paper = self.is_wrong(circuit, steps_of("a+ b+ b- a-"), rest)
        self.assertEqual(sorted(paper[1]), [("go", 0)] * 2 + [("go", 1)] * 2 + [("turn", 0), ("turn", 1)])

    def test_all_small_rounds_and_some_greater_ones(self):
        told = {"goes": 0, "wrong": 0}
        for sections, steps in [((1, 1), steps) for steps in small_rounds()] + some_rounds()[:12]:
            circuit, rest = plain_circuit(sections, steps), plain_rest(sections, steps)
            if rows_from(circuit, steps, rest) is None:
                told["wrong"] += 1
                self.is_wrong(circuit, steps, rest)
            else:
                told["goes"] += 1
                self.goes(circuit, steps, rest)
        self.assertGreater(min(told.values()), 10)

    def test_the_stand_and_0_are_no_row(self):
        steps = steps_of("a+ b+ a- b-")
        circuit = plain_circuit((1, 2), steps)
        for places, valves in (((2, 0), (1, 0)), ((0, 4), (0, 1)), ((0, 1), (0, 0)), ((2, 4), (1, 1))):
            stand = made_stand(circuit, (places, valves, (), (0, 0)))
            self.assertEqual(self.is_wrong(circuit, steps, stand), ("wrong", ()))

    def test_the_stand_and_0_are_a_row_but_not_a_right_one(self):
        circuit = made_circuit(((1, 2), ((OFF, OFF),) * 2, (), 1))
        steps = steps_of("a+ b+ a- b-")
        self.assertEqual(self.is_wrong(circuit, steps, ((0, 0), (0, 1), (), (0,))), ("wrong", ()))
        self.assertEqual(self.is_wrong(circuit, steps, ((0, 0), (0, 0), (), (1,))), ("wrong", ()))

    def test_a_wrong_paper_that_ends_in_a_restless_event(self):
        paper = self.is_wrong(made_circuit(BLINKING), made_round((1,), ALONE), BLINKING_REST)
        self.assertEqual(sorted(set(paper[1])), [("go", 0), ("turn", 0)])

    def test_nothing_wrong_but_restless(self):
        circuit = made_circuit(((1,), BLINKING[1], ((OFF, OFF),), 1))
        self.goes(circuit, ALONE, BLINKING_REST)

    def test_from_a_stand_within_step_0(self):
        steps = steps_of("a+b+ a-b-")
        circuit = plain_circuit((2, 1), steps)
        self.goes(circuit, steps, ((3, 0), (1, 1), (), (1, 0)))
        self.goes(circuit, steps, ((0, 1), (1, 1), (), (1, 1)))

    def test_just_1000_right_rows(self):
        circuit, steps, stand = just_1000()
        self.assertEqual(len(rows_from(circuit, steps, stand)), 1000)
        self.goes(circuit, steps, stand)

    def test_more_than_1000_right_rows(self):
        circuit, steps, stand = just_1001()
        self.assertEqual(len(rows_from(circuit, steps, stand)), 1001)
        self.assert_only(TooGreat, walk, circuit, steps, stand)
        steps = steps_of("a+b+ a-b-")
        circuit, rest = plain_circuit((4, 4), steps), plain_rest((4, 4), steps)
        self.goes(circuit, steps, rest)
        steps = steps_of("a+b+c+ a-b-c-")
        circuit, rest = plain_circuit((4, 4, 4), steps), plain_rest((4, 4, 4), steps)
        self.assert_only(TooGreat, walk, circuit, steps, rest)

    def test_arguments_are_left_alone_and_answers_are_equal(self):
        steps = steps_of("a+ b+ a- b-")
        things = [plain_circuit((1, 2), steps), steps, plain_rest((1, 2), steps)]
        kept = Unchanged(things)
        self.assertEqual(walk(*things), walk(*things))
        self.assertTrue(kept.holds())


if __name__ == "__main__":
    unittest.main()

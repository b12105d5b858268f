"""Point 16: plain circuits and their rests."""

import unittest

from pistonrounds.answering import is_settled
from pistonrounds.circuits import made_circuit
from pistonrounds.plain import plain_circuit, plain_rest
from pistonrounds.rounds import made_round
from pistonrounds.stands import made_stand
from tests.some_rounds import OUT_SECTIONS, OUT_STEPS, SECTIONS, STEPS, small_rounds, some_rounds, steps_of, walked
from tests.things import OFF, Unchanged

KEY_0 = ("key", 0)
KEY_1 = ("key", 1)


def written_out(sections, steps, p, side):
    """The line of one piston to one side, put together step by step."""
    parts = []
    for i, step in enumerate(steps):
        for move in step:
            if move == (p, side):
                ahead = steps[i - 1] if i > 0 else steps[len(steps) - 1]
                lines = [("cam", mover, sections[mover] * way) for mover, way in ahead] + [KEY_0]
                parts.append(("and", tuple(lines + [KEY_1] if i == 0 else lines)))
    return ("or", tuple(parts))


class PlainCircuitTest(unittest.TestCase):
    def test_a_whole_circuit(self):
        a_out = ("or", (("and", (("cam", 1, 0), ("cam", 2, 0), KEY_0, KEY_1)),))
        a_in = ("or", (("and", (("cam", 1, 3), KEY_0)),))
        b_out = ("or", (("and", (("cam", 0, 1), KEY_0)),))
        b_in = ("or", (("and", (("cam", 0, 0), ("cam", 2, 2), KEY_0)),))
        c_out = a_in
        c_in = b_in
        pilots = ((a_out, a_in), (b_out, b_in), (c_out, c_in), (OFF, OFF))
        self.assertEqual(plain_circuit(SECTIONS, STEPS), (SECTIONS, pilots, (), 2))

    def test_pistons_that_move_several_times(self):
        a_out = ("or", (
            ("and", (("cam", 1, 0), ("cam", 2, 0), KEY_0)),
            ("and", (("cam", 2, 4), KEY_0)),
        ))
        a_in = ("or", (
            ("and", (("cam", 0, 2), ("cam", 1, 1), KEY_0, KEY_1)),
            ("and", (("cam", 0, 2), KEY_0)),
        ))
        b_out = ("or", (("and", (("cam", 2, 4), KEY_0)),))
        b_in = ("or", (("and", (("cam", 0, 0), KEY_0)),))
        c_out = ("or", (("and", (("cam", 0, 0), KEY_0)),))
        pilots = ((a_out, a_in), (b_out, b_in), (c_out, b_in))
        self.assertEqual(plain_circuit(OUT_SECTIONS, OUT_STEPS), (OUT_SECTIONS, pilots, (), 2))

    def test_a_piston_that_moves_alone(self):
        out = ("or", (("and", (("cam", 0, 0), KEY_0, KEY_1)),))
        back = ("or", (("and", (("cam", 0, 4), KEY_0)),))
        self.assertEqual(plain_circuit((4,), steps_of("a+ a-")), ((4,), ((out, back),), (), 2))

    def test_each_line_of_all_small_rounds_and_some_greater_ones(self):
        for sections, steps in [((2, 3), steps) for steps in small_rounds()] + some_rounds():
            told = plain_circuit(sections, steps)
            pilots = tuple(
                (written_out(sections, steps, p, 1), written_out(sections, steps, p, 0)) for p in range(len(sections))
            )
            self.assertEqual(told, (sections, pilots, (), 2))

    def test_it_is_a_circuit_and_the_rest_is_a_stand_of_it(self):
        full = tuple(tuple((p, side) for p in range(6)) for side in (1, 0)) * 6
        for sections, steps in some_rounds() + [((4,) * 6, made_round((4,) * 6, full))]:
            told = plain_circuit(sections, steps)
            self.assertIs(made_circuit(told), told)
            rest = plain_rest(sections, steps)
            self.assertIs(made_stand(told, rest), rest)
            self.assertIs(is_settled(told, rest), True)


class PlainRestTest(unittest.TestCase):
    def test_all_in(self):
        self.assertEqual(plain_rest(SECTIONS, STEPS), ((0, 0, 0, 0), (0, 0, 0, 0), (), (0, 0)))

    def test_some_out(self):
        self.assertEqual(plain_rest(OUT_SECTIONS, OUT_STEPS), ((4, 2, 8), (1, 1, 1), (), (0, 0)))
        steps = steps_of("a-c+ a+d- c- d+")
        self.assertEqual(plain_rest((1, 2, 3, 4), steps), ((2, 0, 0, 8), (1, 0, 0, 1), (), (0, 0)))

    def test_all_small_rounds(self):
        for steps in small_rounds():
            places = walked((2, 3), steps)[0]
            valves = tuple(1 if place > 0 else 0 for place in places)
            self.assertEqual(plain_rest((2, 3), steps), (places, valves, (), (0, 0)))

    def test_arguments_are_left_alone_and_answers_are_equal(self):
        things = [OUT_SECTIONS, OUT_STEPS]
        kept = Unchanged(things)
        self.assertEqual(plain_circuit(*things), plain_circuit(*things))
        self.assertEqual(plain_rest(*things), plain_rest(*things))
        self.assertTrue(kept.holds())


if __name__ == "__main__":
    unittest.main()

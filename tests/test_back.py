"""Points 2, 3 and 30: rounds that are read back."""

import unittest

from pistonrounds.answering import is_settled
from pistonrounds.back import read_back
from pistonrounds.circuits import made_circuit
from pistonrounds.clashes import clashes
from pistonrounds.cuts import fewest_cut
from pistonrounds.events import can_go
from pistonrounds.groups import chain_cut, group_circuit, group_rest
from pistonrounds.plain import plain_circuit, plain_rest
from pistonrounds.rounds import made_round
from pistonrounds.runs import run
from tests.some_rounds import BLINKING, small_rounds, some_rounds, steps_of
from tests.things import OFF, ON, Unchanged, blinker, plain

TURNS = (("turn", 0), ("turn", 1))
OUT_0, OUT_1 = ("cam", 0, 1), ("cam", 1, 1)
IN_0, IN_1 = ("cam", 0, 0), ("cam", 1, 0)


def begun(circuit, rest):
    """The stand behind the turns of both keys to 1."""
    return run(circuit, rest, TURNS)[-1]


def both(*lines):
    return ("and", lines)


def either(*lines):
    return ("or", lines)


class MadeOfARoundTest(unittest.TestCase):
    def reads(self, circuit, stand, steps):
        self.assertIs(is_settled(circuit, stand), True)
        self.assertEqual(read_back(circuit, stand), steps)

    def test_circuits_by_cuts(self):
        for sections, steps in [((2, 1), steps) for steps in small_rounds()] + some_rounds():
            for cut in (fewest_cut(steps), chain_cut(steps)):
                circuit, rest = group_circuit(sections, steps, cut), group_rest(sections, steps, cut)
                self.reads(circuit, begun(circuit, rest), steps)
                other = run(circuit, rest, TURNS[::-1])[-1]
                self.reads(circuit, other, steps)

    def test_plain_circuits_without_clashes(self):
        many = 0
        for sections, steps in [((1, 3), steps) for steps in small_rounds()] + some_rounds():
            if clashes(sections, steps) == ():
                circuit = plain_circuit(sections, steps)
                self.reads(circuit, begun(circuit, plain_rest(sections, steps)), steps)
                many += 1
        self.assertGreater(many, 5)

    def test_from_stands_ahead_of_later_steps(self):
        for sections, steps in some_rounds():
            circuit = group_circuit(sections, steps, fewest_cut(steps))
            stand = begun(circuit, group_rest(sections, steps, fewest_cut(steps)))
            for i, step in enumerate(steps):
                self.reads(circuit, stand, steps[i:] + steps[:i])
                goes = tuple(("go", p) for p, side in step for _ in range(2 * sections[p]))
                stand = run(circuit, stand, goes)[-1]

    def test_a_step_of_several_pistons_with_sections_of_one_and_more(self):
        steps = steps_of("a+b+c+ b- a-c-")
        circuit = group_circuit((1, 4, 2), steps, chain_cut(steps))
        stand = begun(circuit, group_rest((1, 4, 2), steps, chain_cut(steps)))
        self.reads(circuit, stand, (((0, 1), (1, 1), (2, 1)), ((1, 0),), ((0, 0), (2, 0))))

    def test_without_keys_and_by_hand(self):
        circuit = made_circuit(((1,), ((IN_0, OUT_0),), (), 0))
        self.reads(circuit, ((0,), (1,), (), ()), steps_of("a+ a-"))
        self.reads(circuit, ((2,), (0,), (), ()), steps_of("a- a+"))

    def test_keys_stay_as_they_are(self):
        # The key tells whether both go together, or one behind the other.
        together, apart = ("key", 0), ("not", ("key", 0))
        circuit = made_circuit(((1, 1), ((both(IN_0, IN_1), both(OUT_0, OUT_1)), (
            either(both(OUT_0, apart), both(IN_0, IN_1, together)),
            either(both(IN_0, apart), both(OUT_0, OUT_1, together)),
        )), (), 1))
        self.reads(circuit, ((0, 0), (1, 0), (), (0,)), steps_of("a+ b+ a- b-"))
        self.reads(circuit, ((0, 0), (1, 1), (), (1,)), steps_of("a+b+ a-b-"))

    def test_arguments_are_left_alone_and_answers_are_equal(self):
        steps = steps_of("a+ b+ a- b-")
        circuit = plain_circuit((1, 2), steps)
        things = [circuit, begun(circuit, plain_rest((1, 2), steps))]
        kept = Unchanged(things)
        self.assertEqual(read_back(*things), read_back(*things))
        self.assertTrue(kept.holds())


class NoneTest(unittest.TestCase):
    def none(self, circuit, stand):
        self.assertIs(is_settled(made_circuit(circuit), stand), True)
        self.assertIsNone(read_back(circuit, stand))

    def test_a_key_at_0(self):
        for sections, steps in some_rounds():
            circuit = group_circuit(sections, steps, fewest_cut(steps))
            rest = group_rest(sections, steps, fewest_cut(steps))
            self.none(circuit, rest)
            self.none(circuit, run(circuit, rest, TURNS[:1])[-1])
            self.none(circuit, run(circuit, rest, TURNS[1:])[-1])

    def test_a_key_at_0_that_stops_at_a_later_step(self):
        steps = steps_of("a+ b+ a- b-")
        circuit = plain_circuit((1, 2), steps)
        stand = run(circuit, plain_rest((1, 2), steps), TURNS + (("turn", 1),))[-1]
        self.assertEqual(can_go(circuit, stand), ((0, 1),))
        self.none(circuit, stand)

    def test_nothing_can_go_ever(self):
        self.none(plain(), ((0,), (0,), (), ()))
        self.none(plain(2, 1, 1, 3), ((0, 6), (0, 1), (1,), (1,)))

    def test_a_stand_within_a_step(self):
        for sections, steps in some_rounds():
            circuit = group_circuit(sections, steps, fewest_cut(steps))
            stand = begun(circuit, group_rest(sections, steps, fewest_cut(steps)))
            self.none(circuit, run(circuit, stand, (("go", steps[0][0][0]),))[-1])

    def test_a_stand_within_a_step_of_which_a_piston_has_come(self):
        steps = steps_of("a+b+ a-b-")
        circuit = plain_circuit((1, 1), steps)
        stand = begun(circuit, plain_rest((1, 1), steps))
        for p in (0, 1):
            within = run(circuit, stand, (("go", p),) * 2)[-1]
            self.assertEqual(can_go(circuit, within), ((1 - p, 1),))
            self.none(circuit, within)

    def test_a_restless_event_in_the_first_step(self):
        self.none(BLINKING, ((0,), (1,), (0,), (1,)))
        self.assertEqual(read_back(BLINKING, ((0,), (1,), (0,), (0,))), steps_of("a+ a-"))

    def test_a_restless_event_on_the_way(self):
        for cam in (IN_0, OUT_0):
            circuit = ((1,), ((IN_0, OUT_0),), (blinker(both(("key", 0), cam)),), 1)
            place, side = (2, 0) if cam == IN_0 else (0, 1)
            self.none(circuit, ((place,), (side,), (0,), (1,)))
            self.assertEqual(len(read_back(circuit, ((place,), (side,), (0,), (0,)))), 2)

    def test_another_piston_can_go_within_a_step(self):
        # Piston 1 is sent as soon as piston 0 has left its end.
        left = ("not", IN_0)
        circuit = ((1, 1), ((both(IN_0, IN_1), both(OUT_0, OUT_1)), (left, ("not", left))), (), 0)
        self.none(circuit, ((0, 0), (1, 0), (), ()))
        # Sent as soon as piston 0 has come, it goes in a step of its own.
        circuit = ((1, 1), ((both(IN_0, IN_1), both(OUT_0, OUT_1)), (OUT_0, IN_0)), (), 0)
        self.assertEqual(read_back(circuit, ((0, 0), (1, 0), (), ())), steps_of("a+ b+ a- b-"))

    def test_a_piston_that_is_still_to_come_is_sent_back(self):
        # Once piston 0 is out, piston 1 is sent in again from its end, at which it still is: it can't go any more.
        circuit = ((1, 1), ((both(IN_0, IN_1), OFF), (both(IN_0, IN_1), OUT_0)), (), 0)
        self.none(circuit, ((0, 0), (1, 1), (), ()))
        # In the middle of its way it is sent back: it can go still, but to the other side.
        middle = ("cam", 0, 1)
        circuit = ((2,), ((IN_0, either(middle, ("cam", 0, 2))),), (), 0)
        self.none(circuit, ((0,), (1,), (), ()))

    def test_a_piston_that_has_come_is_sent_back_within_the_step(self):
        # Both go out; piston 0 is sent in as soon as it is out.
        pilots = ((both(IN_0, IN_1), OUT_0), (both(IN_0, IN_1), both(IN_0, OUT_1)))
        self.none(((1, 1), pilots, (), 0), ((0, 0), (1, 1), (), ()))

    def test_the_least_piston_goes_all_its_way_first(self):
        # If piston 1 comes ahead of piston 0, or leaves its end ahead of that, something else is done.
        for early in (both(OUT_1, ("not", OUT_0)), both(("not", IN_1), ("not", OUT_0))):
            waits = ((both(IN_0, IN_1), both(OUT_0, OUT_1)), (both(IN_0, IN_1), either(both(OUT_0, OUT_1), early)))
            # On the way in nothing is early.
            circuit = ((1, 1), waits, (), 0)
            stand = ((0, 0), (1, 1), (), ())
            turned = ((1, 1), (
                (both(IN_0, IN_1), either(both(OUT_0, OUT_1), swapped(early))), (both(IN_0, IN_1), both(OUT_0, OUT_1)),
            ), (), 0)
            self.none(turned, stand)
            self.assertEqual(read_back(made_circuit(circuit), stand), steps_of("a+b+ a-b-"))

    def test_the_first_stand_does_not_come_back_though_others_do(self):
        # The memory keeps that piston 0 was out once.
        circuit = ((1,), ((IN_0, OUT_0),), ((OUT_0, OFF),), 0)
        self.none(circuit, ((0,), (1,), (0,), ()))
        self.assertEqual(read_back(circuit, ((0,), (1,), (1,), ())), steps_of("a+ a-"))
        # Piston 1 goes out once, and stays.
        circuit = ((1, 1), ((both(IN_0, OUT_1), OUT_0), (ON, OFF)), (), 0)
        self.none(circuit, ((0, 0), (0, 1), (), ()))
        self.assertEqual(read_back(circuit, ((0, 2), (1, 1), (), ())), steps_of("a+ a-"))

    def test_just_12_steps_and_more(self):
        for text, told in (
            ("a+ a- " * 6, True), ("a+ b+ a-b- a+b+ a-b- " + "a+ a- " * 3 + "b+ b-", False),
            ("a+ b+ a-b- " + "a+ a- " * 5, False), ("a+ b+ a-b- a+ b+ a-b- " + "a+ a- " * 3, True),
        ):
            steps = steps_of(text)
            self.assertEqual(len(steps), 12 if told else 13)
            cut = fewest_cut(steps)
            circuit = made_circuit(group_circuit((1, 1), steps, cut))
            stand = begun(circuit, group_rest((1, 1), steps, cut))
            # The circuit goes these steps, however many they are.
            goes = tuple(("go", p) for step in steps for p, side in step for _ in range(2))
            self.assertEqual(run(circuit, stand, goes)[-1], stand)
            self.assertEqual(read_back(circuit, stand), made_round((1, 1), steps) if told else None)

    def test_whatever_is_told_is_a_round(self):
        # Pistons that are sent by one cam each: most of these circuits stop or go on within a step.
        cams = [IN_0, OUT_0, IN_1, OUT_1]
        told = 0
        for a_out in cams:
            for a_in in cams:
                for b_out in cams:
                    for b_in in cams:
                        circuit = made_circuit(((1, 1), ((a_out, a_in), (b_out, b_in)), (), 0))
                        for stand in (((0, 0), (1, 0), (), ()), ((0, 2), (1, 1), (), ()), ((2, 2), (1, 0), (), ())):
                            steps = read_back(circuit, stand) if is_settled(circuit, stand) else None
                            if steps is not None:
                                made_round((1, 1), steps)
                                told += 1
        self.assertGreater(told, 5)


def swapped(line):
    """The line with pistons 0 and 1 exchanged."""
    if line[0] == "cam":
        return ("cam", 1 - line[1], line[2])
    if line[0] == "not":
        return ("not", swapped(line[1]))
    return (line[0], tuple(swapped(part) for part in line[1]))


if __name__ == "__main__":
    unittest.main()

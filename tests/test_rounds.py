"""Points 2, 13, 14 and 15: rounds, the places between their steps, calls and due ends."""

import itertools
import unittest

from pistonrounds.errors import NoRound
from pistonrounds.rounds import between, call_of, due_end, made_round
from tests.some_rounds import OUT_SECTIONS, OUT_STEPS, SECTIONS, STEPS, small_rounds, walked
from tests.things import Refusals, Unchanged, anything, not_deep, nowhere, paths, put, within


class MadeRoundTest(Refusals, unittest.TestCase):
    def taken(self, thing, sections=(1, 2)):
        self.assertIs(made_round(sections, thing), thing)

    def refused(self, thing, sections=(1, 2)):
        self.assert_only(NoRound, made_round, sections, thing)

    def test_what_is_handed_in_is_handed_back(self):
        self.taken(STEPS, SECTIONS)
        self.taken(OUT_STEPS, OUT_SECTIONS)

    def test_2_to_12_steps(self):
        out, back = ((0, 1),), ((0, 0),)
        for many in range(0, 20, 2):
            thing = (out, back) * (many // 2)
            if 2 <= many <= 12:
                self.taken(thing)
                self.taken(thing[::-1])
            else:
                self.refused(thing)
        third = (((0, 1),), ((1, 1),), ((0, 0), (1, 0)))
        self.taken(third)
        self.taken(third + (out, back) * 4)
        self.refused(third + (out, back) * 5)
        self.refused((out,))
        self.refused((out + ((1, 1),),))
        self.refused(())

    def test_a_step_of_no_move(self):
        for at in range(5):
            self.refused(STEPS[:at] + ((),) + STEPS[at:], SECTIONS)
        self.refused(((), ()))

    def test_pistons_that_do_not_rise_within_a_step(self):
        self.taken((((0, 1), (1, 1)), ((0, 0), (1, 0))))
        self.refused((((1, 1), (0, 1)), ((0, 0), (1, 0))))
        self.refused((((0, 1), (1, 1)), ((1, 0), (0, 0))))
        self.taken((((0, 1), (2, 1), (3, 1)), ((0, 0), (2, 0), (3, 0))), SECTIONS)
        self.refused((((0, 1), (3, 1), (2, 1)), ((0, 0), (2, 0), (3, 0))), SECTIONS)

    def test_a_piston_twice_within_a_step(self):
        self.refused((((0, 1), (0, 0)), ((0, 1), (0, 0))))
        self.refused((((0, 1), (0, 0)), ((1, 1),), ((1, 0),)))
        self.refused((((0, 1), (0, 1)), ((0, 0), (0, 0))))
        self.refused((((0, 1), (1, 1), (1, 0)), ((0, 0),)))

    def test_a_piston_that_moves_once(self):
        self.refused((((0, 1),), ((1, 1),), ((1, 0),)))
        self.refused((((0, 0),), ((1, 1),), ((1, 0),)))
        self.refused((((0, 1),), ((1, 1),)))

    def test_out_and_out_again(self):
        out, back = ((0, 1),), ((0, 0),)
        for thing in itertools.product((out, back), repeat=4):
            if thing in ((out, back, out, back), (back, out, back, out)):
                self.taken(thing)
            else:
                self.refused(thing)

    def test_out_and_out_again_around(self):
        out, back = ((0, 1),), ((0, 0),)
        self.refused((out, back, out))
        self.refused((back, out, back))
        self.refused((((0, 1), (1, 1)), ((0, 0),), ((0, 1), (1, 0))))
        self.refused((((1, 1),), ((0, 1),), ((1, 0),), ((0, 0),), ((0, 1),)))

    def test_pistons_that_are_not_there(self):
        for sections in ((1,), (1, 2), (1,) * 6):
            for p in range(-2, 9):
                thing = (((p, 1),), ((p, 0),))
                if 0 <= p < len(sections):
                    self.taken(thing, sections)
                else:
                    self.refused(thing, sections)

    def test_sides_are_0_and_1(self):
        for side in (-1, 2, 3, 10 ** 999):
            self.refused((((0, side),), ((0, 0),)))
            self.refused((((0, 1),), ((0, side),)))

    def test_true_is_no_number_and_no_side(self):
        thing = (((0, 1), (1, 1)), ((0, 0), (1, 0)))
        self.taken(thing)
        for path in paths(thing):
            before = within(thing, path)
            if isinstance(before, int):
                self.refused(put(thing, path, bool(before)))
                self.refused(put(thing, path, str(before)))

    def test_lists_are_no_tuples(self):
        for path in paths(STEPS):
            before = within(STEPS, path)
            if isinstance(before, tuple):
                self.refused(put(STEPS, path, list(before)), SECTIONS)

    def test_things_of_other_kinds_at_every_place(self):
        for path in paths(STEPS):
            for thing in nowhere():
                self.refused(put(STEPS, path, thing), SECTIONS)

    def test_moves_of_one_part_or_three(self):
        for path in paths(STEPS):
            if len(path) == 2:
                before = within(STEPS, path)
                self.refused(put(STEPS, path, before[:1]), SECTIONS)
                self.refused(put(STEPS, path, before + (0,)), SECTIONS)
                self.refused(put(STEPS, path, ()), SECTIONS)

    def test_anything_is_no_round(self):
        for thing in anything():
            self.refused(thing)
            self.refused((thing, thing))
            self.refused(((thing,), (thing,)))

    def test_all_small_rounds(self):
        right = set(small_rounds())
        self.assertIn((((0, 1),), ((0, 0), (1, 1)), ((1, 0),)), right)
        moves = [(p, side) for p in (0, 1) for side in (0, 1)]
        steps = [(move,) for move in moves] + list(itertools.product(moves, repeat=2))
        for many in (1, 2, 3):
            for thing in itertools.product(steps, repeat=many):
                if thing in right:
                    self.taken(thing)
                else:
                    self.refused(thing)

    def test_arguments_are_left_alone(self):
        things = not_deep() + [[list(step) for step in STEPS]]
        kept = Unchanged(things)
        for thing in things:
            self.refused(thing)
        self.assertEqual(made_round(SECTIONS, STEPS), made_round(SECTIONS, STEPS))
        self.assertTrue(kept.holds())


class BetweenTest(unittest.TestCase):
    def test_each_step_and_the_number_of_steps(self):
        told = [between(SECTIONS, STEPS, i) for i in range(5)]
        self.assertEqual(told, [(0, 0, 0, 0), (2, 0, 0, 0), (2, 6, 0, 0), (0, 6, 4, 0), (0, 0, 0, 0)])

    def test_last_moves_that_lie_around(self):
        told = [between(OUT_SECTIONS, OUT_STEPS, i) for i in range(7)]
        self.assertEqual(told, [
            (4, 2, 8), (0, 2, 8), (0, 0, 0), (4, 0, 0), (0, 0, 0), (0, 0, 8), (4, 2, 8),
        ])

    def test_pistons_without_moves_are_in(self):
        steps = (((1, 0),), ((1, 1),))
        self.assertEqual([between((4, 3, 2), steps, i) for i in range(3)], [(0, 6, 0), (0, 0, 0), (0, 6, 0)])

    def test_all_small_rounds(self):
        for steps in small_rounds():
            told = [between((2, 3), steps, i) for i in range(len(steps) + 1)]
            self.assertEqual(told, walked((2, 3), steps), steps)

    def test_a_tuple_is_told(self):
        self.assertIs(type(between(SECTIONS, STEPS, 1)), tuple)


class CallOfTest(unittest.TestCase):
    def test_the_moves_of_the_step_ahead_in_their_order(self):
        told = [call_of(SECTIONS, STEPS, i) for i in range(4)]
        self.assertEqual(told, [
            (("cam", 1, 0), ("cam", 2, 0)),
            (("cam", 0, 1),),
            (("cam", 1, 3),),
            (("cam", 0, 0), ("cam", 2, 2)),
        ])

    def test_the_last_step_around(self):
        self.assertEqual(call_of(OUT_SECTIONS, OUT_STEPS, 0), (("cam", 0, 2), ("cam", 1, 1)))
        self.assertEqual(call_of(OUT_SECTIONS, OUT_STEPS, 2), (("cam", 1, 0), ("cam", 2, 0)))
        self.assertEqual(call_of(OUT_SECTIONS, OUT_STEPS, 5), (("cam", 2, 4),))

    def test_all_small_rounds(self):
        for steps in small_rounds():
            for i in range(len(steps)):
                lines = tuple(("cam", p, (2, 3)[p] * side) for p, side in steps[i - 1])
                self.assertEqual(call_of((2, 3), steps, i), lines)


class DueEndTest(unittest.TestCase):
    def test_those_that_move_and_those_that_do_not(self):
        told = [[due_end(SECTIONS, STEPS, i, p) for p in range(4)] for i in range(4)]
        self.assertEqual(told, [[2, 0, 0, 0], [2, 6, 0, 0], [0, 6, 4, 0], [0, 0, 0, 0]])

    def test_a_piston_that_stays_out(self):
        told = [[due_end(OUT_SECTIONS, OUT_STEPS, i, p) for p in range(3)] for i in range(6)]
        self.assertEqual(told, [[0, 2, 8], [0, 0, 0], [4, 0, 0], [0, 0, 0], [0, 0, 8], [4, 2, 8]])

    def test_all_are_due_where_they_are_ahead_of_the_next_step(self):
        for steps in small_rounds():
            rows = walked((2, 3), steps)
            for i in range(len(steps)):
                self.assertEqual(tuple(due_end((2, 3), steps, i, p) for p in (0, 1)), rows[i + 1])

    def test_arguments_are_left_alone_and_answers_are_equal(self):
        things = [SECTIONS, STEPS, 2]
        kept = Unchanged(things)
        self.assertEqual(between(*things), between(*things))
        self.assertEqual(call_of(*things), call_of(*things))
        self.assertEqual(due_end(*things, 1), due_end(*things, 1))
        self.assertTrue(kept.holds())


if __name__ == "__main__":
    unittest.main()

"""Points 2, 15 and 17: clashes and bars."""

import itertools
import unittest

from pistonrounds.clashes import bars, clashes, is_clash
from pistonrounds.plain import plain_circuit, plain_rest
from tests.some_rounds import (
    OUT_SECTIONS, OUT_STEPS, SECTIONS, STEPS, rows_from, small_rounds, some_rounds, steps_of, walked,
)
from tests.things import Unchanged, anything, not_deep, nowhere, paths, put

# Ahead of step 0 piston 0 is in and piston 1 too: the call of step 2 is pressed, which sends piston 0 out.
TWICE = steps_of("a+b+ a- a+ a-b-")


def all_rounds():
    return [((2, 3), steps) for steps in small_rounds()] + some_rounds() + [((1, 2), TWICE)]


def is_told(sections, steps, i, come, j, p):
    """Whether this is a clash, if it has the form of one, word by word of the document."""
    rows = walked(sections, steps)
    places = list(rows[i])
    for q in come:
        places[q] = rows[i + 1][q]
    for q, side in steps[j - 1]:
        if places[q] != 2 * sections[q] * side:
            return False
    end = [2 * sections[q] * side for q, side in steps[j] if q == p][0]
    second_way = i == 0 and len(come) == 0 and j != 0 and p in [q for q, side in steps[0]]
    return end != rows[i + 1][p] or second_way


def all_told(sections, steps):
    """All clashes, by going through all that have the form of one."""
    found = []
    many = range(len(steps))
    for i in many:
        movers = [p for p, side in steps[i]]
        comes = [come for size in range(len(movers)) for come in itertools.combinations(movers, size)]
        for come, j in itertools.product(comes, many):
            found.extend((i, come, j, p) for p, side in steps[j] if is_told(sections, steps, i, come, j, p))
    return tuple(sorted(found))


class IsClashTest(unittest.TestCase):
    def clash(self, thing, steps=STEPS, sections=SECTIONS):
        self.assertIs(is_clash(sections, steps, thing), True, thing)

    def no_clash(self, thing, steps=STEPS, sections=SECTIONS):
        self.assertIs(is_clash(sections, steps, thing), False)

    def test_a_call_that_is_pressed_against_the_due_end(self):
        # In step 3 piston 2 goes in, while the call of step 2, piston 1 out, still sends it out.
        self.clash((3, (), 2, 2))
        self.clash((3, (2,), 2, 2))

    def test_a_move_that_is_to_the_due_end(self):
        self.no_clash((3, (), 2, 0))
        self.no_clash((3, (2,), 2, 0))
        self.no_clash((3, (), 3, 2))

    def test_a_call_that_is_not_pressed_whole(self):
        self.no_clash((3, (1,), 2, 2))
        # Of the call of step 3, pistons 0 in and 2 out, the one or the other is pressed.
        self.no_clash((0, (), 3, 1))
        self.no_clash((1, (), 3, 1))
        self.no_clash((2, (), 3, 1))
        self.no_clash((2, (0,), 3, 1))
        self.no_clash((2, (2,), 3, 1))

    def test_a_tuple_one_longer_and_one_shorter(self):
        thing = (3, (2,), 2, 2)
        self.clash(thing)
        self.no_clash(thing + (0,))
        self.no_clash(thing + ((),))
        self.no_clash(thing[:3])
        self.no_clash(thing[1:])
        self.no_clash(())

    def test_steps_and_pistons_that_are_not_there(self):
        for number in (-4, -2, -1, 4, 6, 7, 10 ** 999, -(10 ** 999)):
            self.no_clash((number, (), 2, 2))
            self.no_clash((3, (), number, 2))
            self.no_clash((3, (), 2, number))
            self.no_clash((3, (number,), 2, 2))
        # Counted from the end these would be step 3, step 2 and piston 2.
        self.no_clash((-1, (), 2, 2))
        self.no_clash((3, (), -2, 2))
        self.no_clash((3, (), 2, -2))

    def test_true_is_no_number(self):
        steps = steps_of("a+ b+ b- a-")
        self.clash((1, (), 3, 0), steps, (1, 2))
        self.no_clash((True, (), 3, 0), steps, (1, 2))
        self.no_clash((1, (), 3, False), steps, (1, 2))
        self.clash((2, (), 1, 1), steps, (1, 2))
        self.no_clash((2, (), True, 1), steps, (1, 2))
        self.no_clash((2, (), 1, True), steps, (1, 2))
        steps = steps_of("a+b+c+ a- b- c-")
        self.clash((0, (1,), 2, 1), steps, (1, 1, 1))
        self.no_clash((0, (True,), 2, 1), steps, (1, 1, 1))
        self.no_clash((False, (1,), 2, 1), steps, (1, 1, 1))
        self.clash((0, (0,), 3, 2), steps, (1, 1, 1))
        self.no_clash((0, (False,), 3, 2), steps, (1, 1, 1))

    def test_lists_are_no_tuples(self):
        self.no_clash([3, (2,), 2, 2])
        self.no_clash((3, [2], 2, 2))
        self.no_clash((3, [], 2, 2))
        self.no_clash((3, (2,), [2], 2))

    def test_come_does_not_rise_or_has_one_twice(self):
        steps = steps_of("a+b+c+ a- b- c-")
        self.clash((0, (0, 2), 3, 2), steps, (1, 1, 1))
        self.no_clash((0, (2, 0), 3, 2), steps, (1, 1, 1))
        self.no_clash((0, (0, 0), 3, 2), steps, (1, 1, 1))
        self.no_clash((0, (2, 2), 3, 2), steps, (1, 1, 1))
        self.no_clash((0, (0, 0, 2), 3, 2), steps, (1, 1, 1))

    def test_come_has_one_that_does_not_move_in_step_i(self):
        for come in ((0,), (3,), (0, 2), (2, 3), (1, 3), (4,)):
            self.no_clash((3, come, 2, 2))

    def test_come_has_all_that_move(self):
        self.no_clash((3, (1, 2), 2, 2))
        steps = steps_of("a+ b+ b- a-")
        self.clash((1, (), 3, 0), steps, (1, 2))
        self.no_clash((1, (1,), 3, 0), steps, (1, 2))
        # The call of step 1 is pressed if all have come, and would not be to the due end of step 3.
        self.clash((3, (), 1, 1), steps, (1, 2))
        self.no_clash((2, (1,), 3, 0), steps, (1, 2))
        self.no_clash((0, (0,), 1, 1), steps, (1, 2))

    def test_a_piston_that_does_not_move_in_step_j(self):
        for p in (0, 1, 3):
            self.no_clash((3, (), 2, p))

    def test_the_second_way(self):
        for steps, sections in ((TWICE, (1, 2)), (steps_of("a+ a- a+ a-"), (1,))):
            self.clash((0, (), 2, 0), steps, sections)

    def test_what_falls_just_short_of_the_second_way(self):
        # One has come.
        self.no_clash((0, (1,), 2, 0), TWICE, (1, 2))
        # Step i is not 0.
        steps = steps_of("a+ a- a+ a-")
        self.no_clash((2, (), 0, 0), steps, (1,))
        steps = steps_of("b+ a+ a- a+ a- b-")
        self.no_clash((1, (), 3, 0), steps, (1, 2))
        self.no_clash((3, (), 1, 0), steps, (1, 2))
        # Step j is 0.
        self.no_clash((0, (), 0, 0), TWICE, (1, 2))
        self.no_clash((0, (), 0, 1), TWICE, (1, 2))
        # The call of step j isn't pressed.
        self.no_clash((0, (), 1, 0), steps_of("a+ a- a+ a-"), (1,))
        # The piston doesn't move in step 0: in step 3 it is sent in, where it is.
        self.no_clash((0, (), 3, 2), steps_of("a+ b+c+ b- c- a-"), (1, 1, 1))
        self.clash((0, (), 3, 2), steps_of("a+ b+ b- c+ a-c-"), (1, 1, 1))

    def test_come_of_none_and_of_some(self):
        steps = steps_of("a+b+c+ a- b- c-")
        for come in ((), (0,), (2,), (0, 2)):
            self.clash((0, come, 3, 2), steps, (1, 1, 1))
        # With piston 1 out the call of step 3 isn't pressed any more.
        for come in ((1,), (0, 1), (1, 2)):
            self.no_clash((0, come, 3, 2), steps, (1, 1, 1))

    def test_the_call_is_pressed_by_those_that_have_come(self):
        # The call of step 3 is piston 0 out.
        steps = steps_of("a+b+ a-b- a+ c+ a- c-")
        self.clash((0, (0,), 3, 2), steps, (1, 1, 1))
        self.no_clash((0, (1,), 3, 2), steps, (1, 1, 1))
        self.no_clash((0, (), 3, 2), steps, (1, 1, 1))

    def test_anything_is_no_clash(self):
        for thing in anything():
            self.no_clash(thing)
            self.no_clash((thing, thing, thing, thing))
            for path in ((0,), (1,), (1, 0), (2,), (3,)):
                if isinstance(thing, bytes) or thing not in (2, 3, ()):
                    self.no_clash(put((3, (2,), 2, 2), path, thing))

    def test_things_of_other_kinds_at_every_place(self):
        thing = (3, (2,), 2, 2)
        for path in paths(thing):
            for other in nowhere():
                self.no_clash(put(thing, path, other))

    def test_all_that_have_the_form(self):
        for sections, steps in all_rounds():
            right = set(all_told(sections, steps))
            many = range(-1, len(steps) + 1)
            pistons = range(-1, len(sections) + 1)
            if len(sections) < 4:
                comes = [come for size in range(4) for come in itertools.combinations(pistons, size)]
                for thing in itertools.product(many, comes, many, pistons):
                    self.assertIs(is_clash(sections, steps, thing), thing in right, (steps, thing))

    def test_arguments_are_left_alone_and_answers_are_equal(self):
        things = not_deep() + [[3, (), 2, 2], (3, [], 2, 2)]
        kept = Unchanged(things)
        for thing in things:
            self.no_clash(thing)
            self.no_clash(thing)
        self.assertTrue(kept.holds())


class ClashesTest(unittest.TestCase):
    def test_all_of_them_and_nothing_else_rising(self):
        self.assertEqual(clashes(SECTIONS, STEPS), ((3, (), 2, 2), (3, (2,), 2, 2)))
        self.assertEqual(clashes((1, 2), steps_of("a+ b+ b- a-")), (
            (0, (), 3, 0), (1, (), 3, 0), (2, (), 1, 1), (3, (), 1, 1),
        ))
        self.assertEqual(clashes((1, 1, 1), steps_of("a+b+c+ a- b- c-")), (
            (0, (), 2, 1), (0, (), 3, 2), (0, (0,), 3, 2), (0, (0, 2), 3, 2), (0, (1,), 2, 1), (0, (1, 2), 2, 1),
            (0, (2,), 2, 1), (0, (2,), 3, 2),
        ))

    def test_those_by_the_second_way_too(self):
        self.assertEqual(clashes((1,), steps_of("a+ a- a+ a-")), ((0, (), 2, 0),))
        self.assertIn((0, (), 3, 0), clashes(OUT_SECTIONS, OUT_STEPS))

    def test_by_going_through_all(self):
        for sections, steps in all_rounds():
            told = clashes(sections, steps)
            self.assertEqual(told, all_told(sections, steps), steps)
            self.assertIs(type(told), tuple)
            for thing in told:
                self.assertIs(is_clash(sections, steps, thing), True)

    def test_a_round_without_clashes(self):
        for sections, text in (
            ((1,), "a+ a-"), ((1, 1), "a+ b+ a- b-"), ((2, 1), "a+b+ a-b-"), ((1, 1, 1), "a+b- b+c+ a-c-"),
        ):
            self.assertEqual(clashes(sections, steps_of(text)), ())
            self.assertEqual(bars(sections, steps_of(text)), ())

    def test_answers_are_equal(self):
        things = [OUT_SECTIONS, OUT_STEPS]
        kept = Unchanged(things)
        self.assertEqual(clashes(*things), clashes(*things))
        self.assertEqual(bars(*things), bars(*things))
        self.assertTrue(kept.holds())


class BarsTest(unittest.TestCase):
    def test_those_with_come_of_none_whose_piston_moves_in_step_i(self):
        self.assertEqual(bars(SECTIONS, STEPS), ((3, (), 2, 2),))
        self.assertEqual(bars((1, 2), steps_of("a+ b+ b- a-")), ((0, (), 3, 0), (2, (), 1, 1)))
        self.assertEqual(bars((1, 1, 1), steps_of("a+b+c+ a- b- c-")), ((0, (), 2, 1), (0, (), 3, 2)))

    def test_a_clash_by_the_second_way_alone_is_no_bar(self):
        self.assertEqual(clashes((1,), steps_of("a+ a- a+ a-")), ((0, (), 2, 0),))
        self.assertEqual(bars((1,), steps_of("a+ a- a+ a-")), ())
        self.assertIn((0, (), 2, 0), clashes((1, 2), TWICE))
        self.assertNotIn((0, (), 2, 0), bars((1, 2), TWICE))

    def test_by_going_through_all_clashes(self):
        for sections, steps in all_rounds():
            rows = walked(sections, steps)
            found = []
            for i, come, j, p in all_told(sections, steps):
                end = [2 * sections[q] * side for q, side in steps[j] if q == p][0]
                if come == () and p in [q for q, side in steps[i]] and end != rows[i + 1][p]:
                    found.append((i, come, j, p))
            told = bars(sections, steps)
            self.assertEqual(told, tuple(found))
            self.assertIs(type(told), tuple)


class PlainGoesTest(unittest.TestCase):
    def test_without_clashes_the_plain_circuit_goes_the_round_from_its_rest(self):
        without = 0
        for sections, steps in all_rounds():
            if clashes(sections, steps) == () and len(steps) < 12:
                without += 1
                circuit = plain_circuit(sections, steps)
                self.assertIsNotNone(rows_from(circuit, steps, plain_rest(sections, steps)), steps)
        self.assertGreater(without, 20)

    def test_with_clashes_it_may_not_go(self):
        steps = steps_of("a+ a- b+ b-")
        circuit = plain_circuit((2, 1), steps)
        self.assertIsNone(rows_from(circuit, steps, plain_rest((2, 1), steps)))


if __name__ == "__main__":
    unittest.main()

"""Points 2, 8, 11, 12, 18 and 19: rows, right rows, and the pair behind an event."""

import itertools
import unittest

from pistonrounds.circuits import made_circuit
from pistonrounds.errors import Restless
from pistonrounds.events import after, events_of
from pistonrounds.plain import plain_circuit, plain_rest
from pistonrounds.rounds import made_round
from pistonrounds.rows import is_right, is_row, next_row
from pistonrounds.stands import made_stand
from tests.some_rounds import SECTIONS, STEPS, small_rounds, steps_of, walked
from tests.things import OFF, ON, Refusals, Unchanged, anything, blinker, follow, not_deep, nowhere, paths, put, within

# All lines are off: so each stand is settled, whatever its valves and marks.
FREE = made_circuit((SECTIONS, ((OFF, OFF),) * 4, ((OFF, OFF),), 2))
# In step 3 pistons 1 and 2 go in.
ROW = (((0, 5, 4, 0), (0, 0, 0, 0), (1,), (0, 1)), 3)
TWO = made_circuit(((1, 2), ((OFF, OFF),) * 2, (), 1))
TWO_STEPS = made_round((1, 2), steps_of("a+ b+ a-b-"))


def standing(places, valves=(0, 0, 0, 0)):
    return (places, valves, (0,), (0, 0))


def may_be(sections, steps, i, places):
    """Whether a settled stand with these places makes a row with step i, word by word of the document."""
    rows = walked(sections, steps)
    movers = [p for p, side in steps[i]]
    for p, place in enumerate(places):
        if p not in movers and place != rows[i][p]:
            return False
        if p in movers and place not in range(2 * sections[p] + 1):
            return False
    return any(places[p] != rows[i + 1][p] for p in movers)


def goes_right(circuit, steps, stand, i):
    """Whether a row is right, word by word of the document."""
    places, valves, _, keys = stand
    going = []
    for p, (place, side) in enumerate(zip(places, valves)):
        if place != 2 * circuit[0][p] * side:
            going.append((p, side))
    return set(going) <= set(steps[i]) and (len(going) > 0 or not all(key == 1 for key in keys))


class IsRowTest(unittest.TestCase):
    def row(self, thing, steps=STEPS, circuit=FREE):
        self.assertIs(is_row(circuit, steps, thing), True, thing)

    def no_row(self, thing, steps=STEPS, circuit=FREE):
        self.assertIs(is_row(circuit, steps, thing), False)

    def test_at_their_places_ahead_at_their_due_ends_between(self):
        self.row((standing((0, 6, 4, 0)), 3))
        self.row((standing((0, 0, 4, 0)), 3))
        self.row((standing((0, 6, 0, 0)), 3))
        self.row((standing((0, 1, 0, 0)), 3))
        self.row((standing((0, 5, 2, 0)), 3))
        self.row((standing((0, 0, 0, 0)), 0))
        self.row((standing((1, 0, 0, 0)), 0))

    def test_all_at_their_due_ends(self):
        self.no_row((standing((0, 0, 0, 0)), 3))
        self.no_row((standing((2, 0, 0, 0)), 0))
        self.no_row((standing((2, 6, 0, 0)), 1))
        self.no_row((standing((0, 6, 4, 0)), 2))

    def test_one_that_does_not_move_is_away_from_its_place(self):
        for place in (1, 2):
            self.no_row((standing((place, 6, 4, 0)), 3))
        for place in (1, 4, 8):
            self.no_row((standing((0, 6, 4, place)), 3))
        self.no_row((standing((0, 1, 0, 0)), 0))
        self.no_row((standing((2, 5, 0, 0)), 2))
        self.no_row((standing((0, 0, 0, 0)), 2))

    def test_all_places_in_all_steps(self):
        for places in itertools.product(range(3), range(7), range(5), (0, 1, 8)):
            for i in range(4):
                told = is_row(FREE, STEPS, (standing(places), i))
                self.assertIs(told, may_be(SECTIONS, STEPS, i, places), (places, i))

    def test_all_small_rounds(self):
        for steps in small_rounds():
            for places in itertools.product(range(3), range(5)):
                for i in range(len(steps)):
                    told = is_row(TWO, steps, ((places, (0, 1), (), (0,)), i))
                    self.assertIs(told, may_be((1, 2), steps, i, places), (steps, places, i))

    def test_valves_marks_and_keys_are_free(self):
        for valves in itertools.product((0, 1), repeat=4):
            for mark, first, second in itertools.product((0, 1), repeat=3):
                self.row((((0, 5, 4, 0), valves, (mark,), (first, second)), 3))

    def test_a_stand_that_is_not_settled(self):
        pilots = ((OFF, OFF), (OFF, OFF), (OFF, OFF), follow(("key", 1)))
        circuit = made_circuit((SECTIONS, pilots, ((("key", 0), OFF),), 2))
        self.row((((0, 6, 4, 0), (0, 0, 0, 0), (0,), (0, 0)), 3), STEPS, circuit)
        self.row((((0, 6, 4, 0), (0, 0, 0, 1), (1,), (1, 1)), 3), STEPS, circuit)
        self.no_row((((0, 6, 4, 0), (0, 0, 0, 0), (0,), (1, 0)), 3), STEPS, circuit)
        self.no_row((((0, 6, 4, 0), (0, 0, 0, 1), (0,), (0, 0)), 3), STEPS, circuit)

    def test_a_stand_of_another_circuit(self):
        self.no_row((((0, 6, 4), (0, 0, 0), (0,), (0, 0)), 3))
        self.no_row((((0, 6, 4, 0), (0, 0, 0), (0,), (0, 0)), 3))
        self.no_row((((0, 6, 4, 0), (0, 0, 0, 0), (), (0, 0)), 3))
        self.no_row((((0, 6, 4, 0), (0, 0, 0, 0), (0, 0), (0, 0)), 3))
        self.no_row((((0, 6, 4, 0), (0, 0, 0, 0), (0,), (0,)), 3))
        self.no_row((((0, 6, 4, 0), (0, 0, 0, 2), (0,), (0, 0)), 3))
        self.no_row((((0, 7, 4, 0), (0, 0, 0, 0), (0,), (0, 0)), 3))
        self.no_row((((0, -1, 4, 0), (0, 0, 0, 0), (0,), (0, 0)), 3))

    def test_steps_that_are_not_there(self):
        for i in (-4, -2, -1, 4, 5, 7, 10 ** 999, -(10 ** 999), None, "3", (3,), [3]):
            self.no_row((standing((0, 6, 4, 0)), i))

    def test_true_is_no_number(self):
        self.row((standing((2, 1, 0, 0)), 1))
        self.no_row((standing((2, 1, 0, 0)), True))
        self.row((standing((1, 0, 0, 0)), 0))
        self.no_row((standing((1, 0, 0, 0)), False))
        for path in paths(ROW):
            number = within(ROW, path)
            if number in (0, 1) and isinstance(number, int):
                self.no_row(put(ROW, path, bool(number)))

    def test_lists_are_no_tuples(self):
        self.row(ROW)
        for path in paths(ROW):
            before = within(ROW, path)
            if isinstance(before, tuple):
                self.no_row(put(ROW, path, list(before)))

    def test_longer_and_shorter(self):
        self.no_row(ROW[:1])
        self.no_row(ROW[1:])
        self.no_row(ROW + (0,))
        self.no_row(ROW + ((),))
        self.no_row(ROW[0])
        self.no_row(ROW[::-1])
        self.no_row((ROW[0] + ((),), 3))
        self.no_row((ROW[0][:3], 3))

    def test_anything_is_no_row(self):
        for thing in anything():
            self.no_row(thing)
            self.no_row((thing, thing))
            self.no_row((thing, 3))
            self.no_row(((thing, thing, thing, thing), 3))
            self.assertIs(is_right(FREE, STEPS, thing), False)
            self.assertIs(is_right(FREE, STEPS, (thing, 3)), False)
            if isinstance(thing, bytes) or thing != 3:
                self.no_row((ROW[0], thing))
                self.assertIs(is_right(FREE, STEPS, (ROW[0], thing)), False)

    def test_things_of_other_kinds_at_every_place(self):
        for path in paths(ROW):
            for thing in nowhere():
                self.no_row(put(ROW, path, thing))
                self.assertIs(is_right(FREE, STEPS, put(ROW, path, thing)), False)

    def test_arguments_are_left_alone_and_answers_are_equal(self):
        things = not_deep() + [[ROW[0], 3], (list(ROW[0]), 3)]
        kept = Unchanged(things)
        for thing in things:
            for _ in range(2):
                self.no_row(thing)
                self.assertIs(is_right(FREE, STEPS, thing), False)
        self.assertTrue(kept.holds())


class IsRightTest(unittest.TestCase):
    def right(self, stand, i, circuit=TWO, steps=TWO_STEPS):
        self.assertIs(is_right(circuit, steps, (made_stand(circuit, stand), i)), True, (stand, i))

    def not_right(self, stand, i, circuit=TWO, steps=TWO_STEPS):
        self.assertIs(is_right(circuit, steps, (made_stand(circuit, stand), i)), False, (stand, i))

    def test_those_that_can_go_move_in_the_step_to_that_side(self):
        self.right(((0, 0), (1, 0), (), (1,)), 0)
        self.right(((1, 0), (1, 0), (), (1,)), 0)
        self.right(((2, 3), (1, 1), (), (1,)), 1)
        self.right(((2, 4), (0, 0), (), (1,)), 2)
        self.right(((2, 4), (0, 1), (), (1,)), 2)
        self.right(((2, 4), (1, 0), (), (1,)), 2)
        self.right(((0, 3), (0, 0), (), (1,)), 2)

    def test_one_that_can_go_but_does_not_move_in_the_step(self):
        for key in (0, 1):
            self.not_right(((0, 0), (1, 1), (), (key,)), 0)
            self.not_right(((0, 0), (0, 1), (), (key,)), 0)
            self.not_right(((2, 1), (0, 1), (), (key,)), 1)

    def test_one_that_can_go_but_to_the_other_side(self):
        for key in (0, 1):
            self.not_right(((1, 0), (0, 0), (), (key,)), 0)
            self.not_right(((2, 1), (1, 0), (), (key,)), 1)
            self.not_right(((1, 1), (0, 1), (), (key,)), 2)
            self.not_right(((1, 1), (1, 0), (), (key,)), 2)

    def test_one_that_has_come_stays(self):
        for key in (0, 1):
            self.not_right(((0, 4), (1, 0), (), (key,)), 2)

    def test_nothing_can_go_with_all_keys_1(self):
        self.not_right(((0, 0), (0, 0), (), (1,)), 0)
        self.not_right(((2, 4), (1, 1), (), (1,)), 2)
        three = made_circuit(((1, 2), ((OFF, OFF),) * 2, (), 3))
        self.not_right(((0, 0), (0, 0), (), (1, 1, 1)), 0, three)

    def test_nothing_can_go_without_keys(self):
        none = made_circuit(((1, 2), ((OFF, OFF),) * 2, (), 0))
        self.not_right(((0, 0), (0, 0), (), ()), 0, none)
        self.right(((0, 0), (1, 0), (), ()), 0, none)

    def test_nothing_can_go_with_a_key_at_0(self):
        self.right(((0, 0), (0, 0), (), (0,)), 0)
        self.right(((2, 4), (1, 1), (), (0,)), 2)
        three = made_circuit(((1, 2), ((OFF, OFF),) * 2, (), 3))
        for keys in itertools.product((0, 1), repeat=3):
            if keys != (1, 1, 1):
                self.right(((0, 0), (0, 0), (), keys), 0, three)

    def test_what_is_no_row_is_not_right(self):
        self.not_right(((2, 0), (1, 0), (), (0,)), 0)
        self.not_right(((0, 4), (0, 1), (), (0,)), 0)
        circuit = made_circuit(((1, 2), ((ON, OFF), (OFF, OFF)), (), 1))
        self.right(((0, 0), (1, 0), (), (0,)), 0, circuit)
        self.not_right(((0, 0), (0, 0), (), (0,)), 0, circuit)

    def test_all_stands_in_all_steps_of_small_rounds(self):
        for steps in small_rounds()[::3]:
            for places in itertools.product(range(3), range(5)):
                for valves in itertools.product((0, 1), repeat=2):
                    for i, key in itertools.product(range(len(steps)), (0, 1)):
                        stand = (places, valves, (), (key,))
                        right = may_be((1, 2), steps, i, places) and goes_right(TWO, steps, stand, i)
                        self.assertIs(is_right(TWO, steps, (stand, i)), right, (steps, stand, i))


class NextRowTest(Refusals, unittest.TestCase):
    def follow_all(self, circuit, steps, row, told):
        """Each event leads to the row told beside it."""
        for event, behind in told:
            self.assertIs(is_right(circuit, steps, row), True)
            self.assertEqual(next_row(circuit, steps, row, event), behind)
            self.assertEqual(behind[0], after(circuit, row[0], event))
            row = behind

    def test_the_same_step_and_the_next_one_and_around(self):
        steps = steps_of("a+ a-")
        circuit = plain_circuit((1,), steps)
        self.follow_all(circuit, steps, (plain_rest((1,), steps), 0), [
            (("turn", 1), (((0,), (0,), (), (0, 1)), 0)),
            (("turn", 0), (((0,), (1,), (), (1, 1)), 0)),
            (("go", 0), (((1,), (1,), (), (1, 1)), 0)),
            (("go", 0), (((2,), (0,), (), (1, 1)), 1)),
            (("turn", 0), (((2,), (0,), (), (0, 1)), 1)),
            (("go", 0), (((1,), (0,), (), (0, 1)), 1)),
            (("turn", 1), (((1,), (0,), (), (0, 0)), 1)),
            (("go", 0), (((0,), (0,), (), (0, 0)), 0)),
        ])

    def test_the_next_step_behind_the_last_pistons_coming(self):
        steps = steps_of("a+b+ a-b-")
        circuit = plain_circuit((1, 1), steps)
        row = (((0, 0), (1, 1), (), (1, 1)), 0)
        self.follow_all(circuit, steps, row, [
            (("go", 1), (((0, 1), (1, 1), (), (1, 1)), 0)),
            (("go", 1), (((0, 2), (1, 1), (), (1, 1)), 0)),
            (("go", 0), (((1, 2), (1, 1), (), (1, 1)), 0)),
            (("turn", 1), (((1, 2), (1, 1), (), (1, 0)), 0)),
            (("go", 0), (((2, 2), (0, 0), (), (1, 0)), 1)),
            (("go", 0), (((1, 2), (0, 0), (), (1, 0)), 1)),
            (("go", 0), (((0, 2), (0, 0), (), (1, 0)), 1)),
            (("go", 1), (((0, 1), (0, 0), (), (1, 0)), 1)),
            (("go", 1), (((0, 0), (0, 0), (), (1, 0)), 0)),
        ])

    def test_turned_keys_leave_the_step(self):
        steps = steps_of("a+ b+ a- b-")
        circuit = plain_circuit((1, 1), steps)
        for i, (places, valves) in enumerate([((0, 0), (0, 0)), ((2, 0), (1, 0)), ((2, 2), (1, 1)), ((0, 2), (0, 1))]):
            row = ((places, valves, (), (0, 0)), i)
            self.assertIs(is_right(circuit, steps, row), True)
            self.assertEqual(next_row(circuit, steps, row, ("turn", 1)), ((places, valves, (), (0, 1)), i))

    def test_it_is_a_row_again(self):
        for steps in small_rounds()[::5]:
            circuit = plain_circuit((1, 1), steps)
            rows = [(plain_rest((1, 1), steps), 0)]
            for row in rows:
                if is_right(circuit, steps, row):
                    for event in events_of(circuit, row[0]):
                        behind = next_row(circuit, steps, row, event)
                        self.assertIs(is_row(circuit, steps, behind), True, (steps, row, event))
                        if behind not in rows:
                            rows.append(behind)

    def test_restless(self):
        steps = steps_of("a+ a-")
        circuit = made_circuit(((1,), ((OFF, OFF),), (blinker(("or", (("key", 0), ("cam", 0, 1)))),), 1))
        row = (((1,), (1,), (0,), (0,)), 0)
        self.assertIs(is_right(circuit, steps, row), True)
        self.assert_at(Restless, 0, next_row, circuit, steps, row, ("turn", 0))
        self.assert_at(Restless, 0, next_row, circuit, steps, row, ("go", 0))

    def test_arguments_are_left_alone_and_answers_are_equal(self):
        steps = steps_of("a+ a-")
        things = [plain_circuit((1,), steps), steps, (plain_rest((1,), steps), 0), ("turn", 0)]
        kept = Unchanged(things)
        self.assertEqual(next_row(*things), next_row(*things))
        self.assertTrue(kept.holds())


if __name__ == "__main__":
    unittest.main()

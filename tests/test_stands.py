"""Points 2, 8 and 9: stands, and which lines are on."""

import unittest

from pistonrounds.circuits import made_circuit
from pistonrounds.errors import NoStand
from pistonrounds.stands import is_on, made_stand
from tests.things import (
    OFF, ON, SMALL, SMALL_STAND, Refusals, Unchanged, anything, not_deep, nots, nowhere, paths, plain, put, within,
)

GREAT = ((1, 4, 2, 3, 1, 2), ((OFF, OFF),) * 6, ((OFF, OFF),) * 12, 3)
GREAT_STAND = ((0, 8, 3, 6, 1, 0), (0, 1, 1, 0, 1, 0), (0, 1) * 6, (1, 0, 1))


class MadeStandTest(Refusals, unittest.TestCase):
    def refused(self, thing, circuit=SMALL):
        self.assert_only(NoStand, made_stand, circuit, thing)

    def test_what_is_handed_in_is_handed_back(self):
        bare = ((0,), (1,), (), ())
        for circuit, stand in ((SMALL, SMALL_STAND), (GREAT, GREAT_STAND), (plain(), bare)):
            self.assertIs(made_stand(made_circuit(circuit), stand), stand)

    def test_each_int_from_its_least_to_its_greatest(self):
        for circuit, stand in ((SMALL, SMALL_STAND), (GREAT, GREAT_STAND)):
            for path in paths(stand):
                if len(path) == 2:
                    part, at = path
                    greatest = 2 * circuit[0][at] if part == 0 else 1
                    for new in range(greatest + 1):
                        made = put(stand, path, new)
                        self.assertIs(made_stand(circuit, made), made)
                    for new in (-1, -2, greatest + 1, greatest + 2, 10 ** 999, -(10 ** 999)):
                        self.refused(put(stand, path, new), circuit)

    def test_tuples_one_longer_or_shorter(self):
        for circuit, stand in ((SMALL, SMALL_STAND), (GREAT, GREAT_STAND)):
            self.refused(stand + ((),), circuit)
            self.refused(stand[:3], circuit)
            self.refused(stand[1:], circuit)
            for part in range(4):
                self.refused(put(stand, (part,), stand[part] + (0,)), circuit)
                self.refused(put(stand, (part,), stand[part][:-1]), circuit)
                self.refused(put(stand, (part,), ()), circuit)
        for part in range(4):
            self.refused(put(((0,), (0,), (), ()), (part,), (0, 0)), plain())

    def test_things_of_other_kinds_at_every_place(self):
        for path in paths(SMALL_STAND):
            for thing in nowhere() + ["0", "1", [1], (0,), (1,)]:
                self.refused(put(SMALL_STAND, path, thing))
            before = within(SMALL_STAND, path)
            if isinstance(before, tuple):
                self.refused(put(SMALL_STAND, path, list(before)))
            else:
                self.refused(put(SMALL_STAND, path, bool(before)))

    def test_the_stand_of_another_circuit(self):
        self.refused(GREAT_STAND, SMALL)
        self.refused(SMALL_STAND, GREAT)
        self.refused(SMALL_STAND, plain())
        self.refused(((0,), (0,), (), (0,)), plain(memories=1))
        self.refused(((0,), (0,), (0,), ()), plain(keys=1))
        self.refused(((4,), (0,), (), ()), plain(sections=1))

    def test_anything_is_no_stand(self):
        for thing in anything():
            self.refused(thing)
            self.refused((thing, thing, thing, thing))

    def test_arguments_are_left_alone(self):
        things = not_deep() + [SMALL, SMALL_STAND, [list(part) for part in SMALL_STAND]]
        kept = Unchanged(things)
        for thing in things[:-2]:
            self.refused(thing)
        self.refused(things[-1])
        self.assertEqual(made_stand(SMALL, SMALL_STAND), made_stand(SMALL, SMALL_STAND))
        self.assertTrue(kept.holds())


class IsOnTest(unittest.TestCase):
    def on(self, line, stand=GREAT_STAND):
        told = is_on(GREAT, stand, line)
        self.assertIs(type(told), bool)
        self.assertIs(is_on(GREAT, stand, ("not", line)), not told)
        return told

    def test_cams_are_pressed_at_even_places_alone(self):
        for p, sections in enumerate(GREAT[0]):
            for place in range(2 * sections + 1):
                stand = put(GREAT_STAND, (0, p), place)
                pressed = [j for j in range(sections + 1) if self.on(("cam", p, j), stand)]
                self.assertEqual(pressed, [place // 2] if place in (0, 2, 4, 6, 8) else [])

    def test_cams_go_by_their_own_piston(self):
        pressed = [(p, j) for p in range(6) for j in range(GREAT[0][p] + 1) if self.on(("cam", p, j))]
        self.assertEqual(pressed, [(0, 0), (1, 4), (3, 3), (5, 0)])

    def test_marks_and_keys(self):
        self.assertEqual([self.on(("mark", m)) for m in range(12)], [False, True] * 6)
        self.assertEqual([self.on(("key", k)) for k in range(3)], [True, False, True])
        stand = put(put(GREAT_STAND, (2,), (1, 0) * 6), (3,), (0, 1, 0))
        self.assertEqual([self.on(("mark", m), stand) for m in range(12)], [True, False] * 6)
        self.assertEqual([self.on(("key", k), stand) for k in range(3)], [False, True, False])

    def test_ands_and_ors_of_none(self):
        self.assertTrue(self.on(ON))
        self.assertFalse(self.on(OFF))

    def test_ands_and_ors_of_one_to_twelve(self):
        for many in range(1, 13):
            for odd in range(many):
                parts = [("mark", 1)] * many
                self.assertTrue(self.on(("and", tuple(parts))))
                parts[odd] = ("mark", 0)
                self.assertFalse(self.on(("and", tuple(parts))))
                self.assertEqual(self.on(("or", tuple(parts))), many > 1)
                parts = [("key", 1)] * many
                self.assertFalse(self.on(("or", tuple(parts))))
                parts[odd] = ("key", 0)
                self.assertTrue(self.on(("or", tuple(parts))))
                self.assertEqual(self.on(("and", tuple(parts))), many == 1)

    def test_nots_within_one_another(self):
        for depth in range(1, 7):
            self.assertEqual(self.on(nots(depth, ("key", 0))), depth % 2 == 1)
            self.assertEqual(self.on(nots(depth, ("key", 1))), depth % 2 == 0)
            self.assertEqual(self.on(nots(depth, ON)), depth % 2 == 1)

    def test_lines_within_lines(self):
        inner = ("and", (("key", 0), ("or", (("mark", 0), ("not", ("cam", 2, 1))))))
        self.assertTrue(self.on(("not", ("not", inner))))
        self.assertFalse(self.on(("and", (inner, OFF))))
        self.assertFalse(self.on(inner, put(GREAT_STAND, (0, 2), 2)))

    def test_arguments_are_left_alone(self):
        things = [GREAT, GREAT_STAND, nots(6, ("key", 0))]
        kept = Unchanged(things)
        self.assertIs(is_on(*things), is_on(*things))
        self.assertTrue(kept.holds())


if __name__ == "__main__":
    unittest.main()

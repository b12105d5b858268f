"""Points 2, 4, 6 and 7: sections and circuits."""

import unittest

from pistonrounds.circuits import counted, is_sections, made_circuit
from pistonrounds.errors import NoCircuit
from tests.things import (
    OFF, ON, SMALL, Refusals, Unchanged, anything, circuit_of_size, nested, not_deep, nots, nowhere, paths, plain,
    put, within,
)


class SectionsTest(unittest.TestCase):
    def test_1_to_6_pistons(self):
        fitting = [many for many in range(10) if is_sections((1,) * many)]
        self.assertEqual(fitting, [1, 2, 3, 4, 5, 6])

    def test_the_numbers_1_to_4(self):
        for around in ((), (1,), (2, 3, 4, 1, 2)):
            self.assertEqual([k for k in range(-3, 8) if is_sections(around + (k,))], [1, 2, 3, 4])
            self.assertEqual([k for k in range(-3, 8) if is_sections((k,) + around)], [1, 2, 3, 4])

    def test_true_or_false_are_told(self):
        self.assertIs(is_sections((1, 4)), True)
        self.assertIs(is_sections((1, 5)), False)

    def test_true_is_no_number(self):
        self.assertIs(is_sections((True,)), False)
        self.assertIs(is_sections((1, 2, True)), False)
        self.assertIs(is_sections((False, 1)), False)

    def test_a_list_is_no_tuple(self):
        self.assertIs(is_sections([1, 2]), False)
        self.assertIs(is_sections(([1], [2])), False)

    def test_anything_is_no_sections(self):
        for thing in anything():
            self.assertIs(is_sections(thing), False)
            self.assertIs(is_sections((thing, "")), False)
        for thing in (1, "1", "12", b"\x01\x02", {1: 1}, {1}, range(1, 3), (1, "1"), (1, None), (1, (1,))):
            self.assertIs(is_sections(thing), False, thing)


class MadeCircuitTest(Refusals, unittest.TestCase):
    def refused(self, thing, told=None):
        with self.subTest(told=told):
            self.assert_only(NoCircuit, made_circuit, thing)

    def test_what_is_handed_in_is_handed_back(self):
        for circuit in (SMALL, plain(), plain(6, 12, 3, 4), circuit_of_size(2000)):
            self.assertIs(made_circuit(circuit), circuit)

    def test_as_many_pilots_as_pistons(self):
        for pistons in range(1, 7):
            for pilots in range(9):
                circuit = ((2,) * pistons, ((ON, OFF),) * pilots, (), 1)
                if pilots == pistons:
                    self.assertIs(made_circuit(circuit), circuit)
                else:
                    self.refused(circuit, (pistons, pilots))

    def test_0_to_12_memories(self):
        for memories in range(13):
            circuit = plain(2, memories, 1)
            self.assertIs(made_circuit(circuit), circuit)
        self.refused(plain(2, 13, 1))
        self.refused(plain(2, 14, 1))

    def test_0_to_3_keys(self):
        for keys in range(4):
            circuit = plain(1, 1, keys)
            self.assertIs(made_circuit(circuit), circuit)
        for keys in (4, 5, -1, True, False, None, "1", (1,), [1], 10 ** 999, -(10 ** 999)):
            self.refused(plain(1, 1, keys), keys)

    def test_sections_are_sections(self):
        for sections in ((), (1,) * 7, (0,), (5,), (True,), [1], "1", None, (1, 0), (None,)):
            many = len(sections) if isinstance(sections, (tuple, list, str)) else 1
            self.refused((sections, ((ON, OFF),) * many, (), 0), sections)

    def test_pairs_are_pairs(self):
        for pair in ((ON,), (ON, OFF, ON), (), [ON, OFF], ON, None, "ab", b"ab", 0, True, {0: ON, 1: OFF}):
            self.refused(((1,), (pair,), (), 0), pair)
            self.refused(((1,), ((ON, OFF),), (pair,), 0), pair)
            self.refused(((1,), ((ON, OFF),), ((ON, OFF), pair), 0), pair)

    def test_one_part_more_or_less(self):
        self.refused(SMALL[:3])
        self.refused(SMALL + (0,))
        self.refused(SMALL[1:])
        self.refused((SMALL,))
        self.refused(())

    def test_all_in_its_lines_is_there(self):
        circuit = ((1, 3), ((ON, OFF),) * 2, ((ON, OFF),) * 2, 2)
        good = (("cam", 0, 1), ("cam", 1, 0), ("cam", 1, 3), ("mark", 0), ("mark", 1), ("key", 0), ("key", 1))
        bad = (
            ("cam", 0, 2), ("cam", 0, -1), ("cam", 1, 4), ("cam", 2, 0), ("cam", -1, 0), ("mark", 2), ("mark", -1),
            ("key", 2), ("key", -1), ("cam", True, 0), ("cam", 0, True), ("mark", True), ("key", False),
        )
        for path in ((1, 0, 0), (1, 0, 1), (1, 1, 0), (1, 1, 1), (2, 0, 0), (2, 0, 1), (2, 1, 0), (2, 1, 1)):
            for wrap in (lambda line: line, lambda line: nots(6, line), lambda line: ("or", (ON, line))):
                for line in good:
                    made = put(circuit, path, wrap(line))
                    self.assertIs(made_circuit(made), made)
                for line in bad:
                    self.refused(put(circuit, path, wrap(line)), (path, line))

    def test_marks_and_keys_go_by_their_own_numbers(self):
        line = ("mark", 3)
        self.refused(((1,), ((line, OFF),), ((ON, OFF),) * 3, 0))
        self.assertTrue(made_circuit(((1,), ((line, OFF),), ((ON, OFF),) * 4, 0)))
        self.refused(((1,), ((("key", 1), OFF),), ((ON, OFF),) * 4, 1))

    def test_no_line_is_more_than_6_deep_or_has_more_than_12_parts(self):
        for path in ((1, 0, 0), (1, 1, 1), (2, 0, 0), (2, 1, 1)):
            for line in (nots(6, ("mark", 0)), nots(6, ON), ("or", (ON,) * 12)):
                made = put(SMALL, path, line)
                self.assertIs(made_circuit(made), made)
            for line in (nots(7, ("mark", 0)), nots(7, ON), ("or", (ON,) * 13)):
                self.refused(put(SMALL, path, line))

    def test_just_2000_lines(self):
        for size in (1000, 1999, 2000):
            circuit = circuit_of_size(size)
            self.assertEqual(counted(circuit)[1], size)
            self.assertIs(made_circuit(circuit), circuit)
        for size in (2001, 2002, 3000):
            circuit = circuit_of_size(size)
            self.assertEqual(counted(circuit)[1], size)
            self.refused(circuit)

    def test_2000_lines_in_a_single_line(self):
        inner = ("and", (ON,) * 12)
        middle = ("or", (inner,) * 12)
        base = ("or", (middle,) * 12)
        # 1 + 12 * (1 + 12 * 13) = 1885 lines; the rest stands in the other line of the pair.
        for rest, right in ((0, True), (113, True), (114, True), (115, False), (116, False)):
            more = []
            left = rest
            while left > 0:
                more.append(("and", (OFF,) * min(12, left - 1)))
                left -= 1 + len(more[-1][1])
            circuit = ((1,), ((base, ("or", tuple(more))),), (), 0)
            if right:
                self.assertIs(made_circuit(circuit), circuit)
            else:
                self.refused(circuit, rest)

    def test_a_great_part_many_times_over_is_refused(self):
        for depth in (4, 5, 30, 38):
            great = nested(depth, lambda inner: ("and", (inner,) * 12), ON)
            for path in ((1, 0, 0), (1, 1, 1), (2, 0, 0), (2, 1, 1)):
                self.refused(put(SMALL, path, great), depth)

    def test_millions_of_lines_of_right_depth_are_refused(self):
        great = nested(5, lambda inner: ("or", (inner,) * 12), ON)
        pair = (great, great)
        self.refused(((1,) * 6, (pair,) * 6, (pair,) * 12, 3))

    def test_things_of_other_kinds_at_every_place(self):
        for path in paths(SMALL):
            for thing in nowhere():
                self.refused(put(SMALL, path, thing), (path, repr(thing)[:80]))

    def test_anything_is_no_circuit(self):
        for thing in anything():
            self.refused(thing)

    def test_a_list_in_place_of_any_tuple(self):
        for path in paths(SMALL):
            before = within(SMALL, path)
            if isinstance(before, tuple):
                self.refused(put(SMALL, path, list(before)), path)

    def test_arguments_are_left_alone(self):
        things = not_deep()
        kept = Unchanged(things)
        for thing in things:
            self.refused(thing)
            self.refused(((1,), ((thing, thing),), thing, 0))
        self.assertTrue(kept.holds())
        kept = Unchanged(SMALL)
        self.assertEqual(made_circuit(SMALL), made_circuit(SMALL))
        self.assertTrue(kept.holds())


class CountedTest(unittest.TestCase):
    def test_four_ints(self):
        told = counted(SMALL)
        self.assertEqual(told, (4, 3, 3, 4))
        self.assertIsInstance(told, tuple)
        self.assertEqual([type(part) for part in told], [int] * 4)
        self.assertEqual(counted(SMALL), told)

    def test_as_many_valves_as_pistons_and_memories(self):
        for pistons, memories in ((1, 0), (6, 12), (2, 3), (3, 2)):
            circuit = plain(pistons, memories, 2)
            self.assertEqual(counted(circuit), (pistons + memories, 0, 2 * (pistons + memories), 0))

    def test_cams_marks_and_keys_are_not_counted(self):
        circuit = ((1,), ((("cam", 0, 0), ("cam", 0, 1)),), ((("mark", 0), ("key", 0)),), 1)
        self.assertEqual(counted(circuit), (2, 0, 0, 0))

    def test_those_within_others_each_as_often_as_it_stands(self):
        inner = ("not", ("and", (("not", OFF), ("cam", 0, 0))))
        line = ("or", (inner, ("and", (inner, inner))))
        circuit = ((1,), ((line, ON),), ((("key", 0), line),), 1)
        self.assertEqual(counted(circuit), (2, 2 * 4 + 1, 2 * 4, 2 * 6))


if __name__ == "__main__":
    unittest.main()

"""Points 2, 5 and 31: faults, and circuits that have one."""

import unittest

from pistonrounds.circuits import counted, made_circuit
from pistonrounds.errors import NoFault
from pistonrounds.faults import faults_of, hurt
from pistonrounds.groups import chain_cut, group_circuit
from tests.some_rounds import OUT_SECTIONS, OUT_STEPS
from tests.things import OFF, ON, SMALL, Refusals, Unchanged, anything, not_deep, nowhere, nots, paths, put, within

SMALL_FAULTS = (
    ("cam", 0, 0, 0), ("cam", 0, 0, 1), ("cam", 0, 1, 0), ("cam", 0, 1, 1),
    ("cam", 1, 0, 0), ("cam", 1, 0, 1), ("cam", 1, 1, 0), ("cam", 1, 1, 1), ("cam", 1, 2, 0), ("cam", 1, 2, 1),
    ("in", 0), ("in", 1),
    ("mark", 0, 0), ("mark", 0, 1), ("mark", 1, 0), ("mark", 1, 1),
    ("off", 0), ("off", 1), ("on", 0), ("on", 1), ("out", 0), ("out", 1),
    ("valve", 0, 0), ("valve", 0, 1), ("valve", 1, 0), ("valve", 1, 1),
)


def exchanged(thing, old, new):
    """The nested tuple with another thing wherever the old one stands."""
    found = [path for path in paths(thing) if within(thing, path) == old]
    for path in found:
        thing = put(thing, path, new)
    return thing


class FaultsOfTest(unittest.TestCase):
    def test_all_of_a_small_circuit(self):
        self.assertEqual(faults_of(SMALL), SMALL_FAULTS)

    def test_those_of_cams_that_stand_in_no_line(self):
        circuit = made_circuit(((2,), ((OFF, OFF),), (), 3))
        self.assertEqual(faults_of(circuit), (
            ("cam", 0, 0, 0), ("cam", 0, 0, 1), ("cam", 0, 1, 0), ("cam", 0, 1, 1), ("cam", 0, 2, 0), ("cam", 0, 2, 1),
            ("in", 0), ("out", 0), ("valve", 0, 0), ("valve", 0, 1),
        ))
        for fault in faults_of(circuit)[:6]:
            self.assertEqual(hurt(circuit, fault), circuit)

    def test_rising_by_numbers_of_two_figures_too(self):
        circuit = made_circuit(((1, 4, 2, 3, 1, 1), ((OFF, OFF),) * 6, ((OFF, OFF),) * 12, 0))
        faults = faults_of(circuit)
        self.assertEqual(faults, tuple(sorted(set(faults))))
        self.assertEqual(len(faults), 2 * (2 + 5 + 3 + 4 + 2 + 2) + 4 * 6 + 4 * 12)
        self.assertLess(faults.index(("off", 2)), faults.index(("off", 11)))

    def test_each_has_a_circuit(self):
        circuit = group_circuit(OUT_SECTIONS, OUT_STEPS, chain_cut(OUT_STEPS))
        for fault in faults_of(circuit):
            self.assertEqual(made_circuit(hurt(circuit, fault))[0::3], circuit[0::3])


class HurtTest(Refusals, unittest.TestCase):
    def test_a_cam_in_each_of_its_lines(self):
        sections, pilots, memories, keys = SMALL
        cam = ("cam", 0, 1)
        for v, line in ((0, OFF), (1, ON)):
            self.assertEqual(hurt(SMALL, ("cam", 0, 1, v)), (
                sections,
                (pilots[0], (pilots[1][0], ("not", ("or", (line, ("mark", 0)))))),
                ((line, OFF), memories[1]),
                keys,
            ))
            self.assertEqual(hurt(SMALL, ("cam", 0, 1, v)), exchanged(SMALL, cam, line))

    def test_each_cam_wherever_it_stands(self):
        for fault in SMALL_FAULTS[:10]:
            told = hurt(SMALL, fault)
            self.assertEqual(told, exchanged(SMALL, fault[:3], ON if fault[3] == 1 else OFF))
            self.assertEqual(told == SMALL, fault[:3] == ("cam", 0, 0))

    def test_a_cam_several_times_in_a_line_and_deep_within(self):
        cam, other = ("cam", 0, 0), ("cam", 0, 1)
        line = ("or", (cam, other, cam, ("and", (cam, cam)), nots(5, cam)))
        circuit = made_circuit(((1,), ((line, nots(6, cam)),), ((other, cam),), 0))
        for v, signal in ((0, OFF), (1, ON)):
            out = ("or", (signal, other, signal, ("and", (signal, signal)), nots(5, signal)))
            told = hurt(circuit, ("cam", 0, 0, v))
            self.assertEqual(told, ((1,), ((out, nots(6, signal)),), ((other, signal),), 0))
            made_circuit(told)

    def test_a_cam_of_another_piston_with_the_same_number_stays(self):
        lines = (("cam", 0, 1), ("cam", 1, 1))
        circuit = made_circuit(((1, 1), (lines, lines), (lines,), 0))
        hurt_lines = (("cam", 0, 1), ON)
        self.assertEqual(hurt(circuit, ("cam", 1, 1, 1)), ((1, 1), (hurt_lines, hurt_lines), (hurt_lines,), 0))

    def test_marks_and_keys_with_the_numbers_of_a_cam_stay(self):
        lines = (("mark", 0), ("key", 0))
        circuit = made_circuit(((1,), (lines,), (lines,), 1))
        for fault in (("cam", 0, 0, 0), ("cam", 0, 0, 1), ("cam", 0, 1, 0)):
            self.assertEqual(hurt(circuit, fault), circuit)

    def test_a_valve(self):
        sections, pilots, memories, keys = SMALL
        self.assertEqual(hurt(SMALL, ("valve", 0, 1)), (sections, ((ON, OFF), pilots[1]), memories, keys))
        self.assertEqual(hurt(SMALL, ("valve", 0, 0)), (sections, ((OFF, ON), pilots[1]), memories, keys))
        self.assertEqual(hurt(SMALL, ("valve", 1, 1)), (sections, (pilots[0], (ON, OFF)), memories, keys))
        self.assertEqual(hurt(SMALL, ("valve", 1, 0)), (sections, (pilots[0], (OFF, ON)), memories, keys))

    def test_a_memory(self):
        sections, pilots, memories, keys = SMALL
        self.assertEqual(hurt(SMALL, ("mark", 0, 1)), (sections, pilots, ((ON, OFF), memories[1]), keys))
        self.assertEqual(hurt(SMALL, ("mark", 0, 0)), (sections, pilots, ((OFF, ON), memories[1]), keys))
        self.assertEqual(hurt(SMALL, ("mark", 1, 1)), (sections, pilots, (memories[0], (ON, OFF)), keys))
        self.assertEqual(hurt(SMALL, ("mark", 1, 0)), (sections, pilots, (memories[0], (OFF, ON)), keys))

    def test_a_line_of_a_piston(self):
        sections, pilots, memories, keys = SMALL
        (a_out, a_in), (b_out, b_in) = pilots
        for fault, told in (
            (("out", 0), ((OFF, a_in), (b_out, b_in))), (("in", 0), ((a_out, OFF), (b_out, b_in))),
            (("out", 1), ((a_out, a_in), (OFF, b_in))), (("in", 1), ((a_out, a_in), (b_out, OFF))),
        ):
            self.assertEqual(hurt(SMALL, fault), (sections, told, memories, keys))

    def test_a_line_of_a_memory(self):
        sections, pilots, memories, keys = put(SMALL, (2, 0, 1), ("key", 1))
        (first_on, first_off), (second_on, second_off) = memories
        circuit = (sections, pilots, memories, keys)
        for fault, told in (
            (("on", 0), ((OFF, first_off), (second_on, second_off))),
            (("off", 0), ((first_on, OFF), (second_on, second_off))),
            (("on", 1), ((first_on, first_off), (OFF, second_off))),
            (("off", 1), ((first_on, first_off), (second_on, OFF))),
        ):
            self.assertEqual(hurt(circuit, fault), (sections, pilots, told, keys))

    def test_the_sizes_of_a_hurt_circuit(self):
        self.assertEqual(counted(SMALL), (4, 3, 3, 4))
        self.assertEqual(counted(hurt(SMALL, ("cam", 0, 1, 1))), (4, 5, 3, 4))
        self.assertEqual(counted(hurt(SMALL, ("cam", 0, 1, 0))), (4, 3, 5, 4))


class NoFaultTest(Refusals, unittest.TestCase):
    def refused(self, fault, circuit=SMALL):
        self.assert_only(NoFault, hurt, circuit, fault)

    def test_other_words(self):
        for fault in (
            ("key", 0, 1), ("key", 0), ("", 0), ("Cam", 0, 0, 0), ("cam ", 0, 0, 0), ("go", 0), ("turn", 0), ("and",
            ()),
            ("valves", 0, 0), ("marks", 0, 0), ("memory", 0, 0), (b"out", 0), (None, 0), (0, "out"), (("out",), 0),
        ):
            self.refused(fault)

    def test_numbers_too_great_or_below_0(self):
        for fault in SMALL_FAULTS:
            for at in range(1, len(fault)):
                for number in (-1, -2, 3, 4, 10 ** 999, -(10 ** 999)):
                    self.refused(put(fault, (at,), number))
        for fault in (
            ("cam", 2, 0, 0), ("cam", 0, 2, 0), ("cam", 1, 3, 0), ("cam", 0, 0, 2), ("valve", 2, 0), ("valve", 0, 2),
            ("mark", 2, 0), ("mark", 0, 2), ("out", 2), ("in", 2), ("on", 2), ("off", 2),
        ):
            self.refused(fault)

    def test_what_is_there_in_a_greater_circuit_alone(self):
        circuit = made_circuit(((1,), ((OFF, OFF),), (), 0))
        for fault in (("mark", 0, 0), ("mark", 0, 1), ("on", 0), ("off", 0), ("out", 1), ("valve", 1, 1)):
            self.refused(fault, circuit)

    def test_true_and_false_are_no_numbers(self):
        for fault in SMALL_FAULTS:
            for at in range(1, len(fault)):
                self.refused(put(fault, (at,), bool(fault[at])))

    def test_a_part_fewer_or_more(self):
        for fault in SMALL_FAULTS:
            self.refused(fault[:-1])
            self.refused(fault + (0,))
            self.refused(fault + (1,))
            self.refused(fault + ("",))
            self.refused((fault,))
            self.refused((fault, ()))
            self.refused(fault[1:])

    def test_lists(self):
        for fault in SMALL_FAULTS:
            self.refused(list(fault))
            self.refused([fault])

    def test_things_of_other_kinds(self):
        for fault in SMALL_FAULTS[::3]:
            for at in range(len(fault)):
                for thing in nowhere():
                    self.refused(put(fault, (at,), thing))

    def test_anything(self):
        for thing in anything():
            self.refused(thing)
            self.refused((thing,))
            self.refused(("out", 0, thing))
            self.refused((thing, 0))
            if isinstance(thing, (bool, bytes)) or thing not in (0, 1):
                self.refused(("out", thing))
                self.refused(("cam", 1, 1, thing))

    def test_arguments_are_left_alone_and_answers_are_equal(self):
        things = not_deep() + [list(fault) for fault in SMALL_FAULTS]
        kept = Unchanged(things)
        for thing in things:
            for _ in range(2):
                self.refused(thing)
        self.assertTrue(kept.holds())
        circuits = [SMALL]
        kept = Unchanged(circuits)
        for fault in SMALL_FAULTS:
            self.assertEqual(hurt(SMALL, fault), hurt(SMALL, fault))
        self.assertEqual(faults_of(SMALL), faults_of(SMALL))
        self.assertTrue(kept.holds())


if __name__ == "__main__":
    unittest.main()

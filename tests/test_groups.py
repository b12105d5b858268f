"""Points 2, 3, 26 and 27: circuits by groups, their rests, and chains."""

import itertools
import unittest

from pistonrounds.answering import is_settled
from pistonrounds.circuits import made_circuit
from pistonrounds.cuts import is_cut
from pistonrounds.errors import NoCut
from pistonrounds.goingpapers import goes_by
from pistonrounds.groups import chain_cut, group_circuit, group_rest
from pistonrounds.rounds import made_round
from pistonrounds.stands import made_stand
from pistonrounds.walks import walk
from tests.some_rounds import OUT_SECTIONS, OUT_STEPS, SECTIONS, STEPS, small_rounds, some_rounds, steps_of, walked
from tests.things import OFF, Refusals, Unchanged, anything, not_deep, nowhere, paths, put

KEY_0 = ("key", 0)
KEY_1 = ("key", 1)


def mark(m):
    return ("mark", m)


def both(other, on):
    """The lines of a memory: on by its own line, off by that of the group that follows."""
    return (("and", on), ("and", (other, ("not", ("and", on)))))


def cuts_of(steps):
    many = range(len(steps))
    return [cut for size in many for cut in itertools.combinations(many, size + 1) if is_cut(steps, cut)]


def written_out(sections, steps, cut):
    """The whole circuit, put together by going step by step from the first begin on."""
    groups = {}
    m = -1
    for k in range(len(steps)):
        i = (cut[0] + k) % len(steps)
        m += 1 if i in cut else 0
        groups[i] = m
    calls = [[("cam", p, sections[p] * side) for p, side in steps[i - 1]] for i in range(len(steps))]
    memories = []
    for m, begin in enumerate(cut):
        ahead, behind = (m + len(cut) - 1) % len(cut), (m + 1) % len(cut)
        on = [mark(ahead)] + calls[begin] + [KEY_0]
        memories.append(both(mark(behind), tuple(on + [KEY_1] if begin == 0 else on)))
    pilots = []
    for p in range(len(sections)):
        parts = {1: [], 0: []}
        for i, step in enumerate(steps):
            lines = [mark(groups[i])]
            if i not in cut:
                lines += calls[i]
                if i == 0:
                    lines.append(KEY_1)
            for mover, side in step:
                if mover == p:
                    parts[side].append(("and", tuple(lines + [KEY_0])))
        pilots.append((("or", tuple(parts[1])), ("or", tuple(parts[0]))))
    return (sections, tuple(pilots), tuple(memories), 2)


class GroupCircuitTest(unittest.TestCase):
    def test_a_cut_whose_last_group_goes_on_at_step_0(self):
        memories = (
            both(mark(1), (mark(1), ("cam", 0, 1), KEY_0)),
            both(mark(0), (mark(0), ("cam", 0, 0), ("cam", 2, 2), KEY_0)),
        )
        within_0 = ("or", (("and", (mark(0), ("cam", 1, 3), KEY_0)),))
        begin_1 = ("or", (("and", (mark(1), KEY_0)),))
        pilots = (
            (("or", (("and", (mark(1), ("cam", 1, 0), ("cam", 2, 0), KEY_1, KEY_0)),)), within_0),
            (("or", (("and", (mark(0), KEY_0)),)), begin_1),
            (within_0, begin_1),
            (OFF, OFF),
        )
        self.assertEqual(group_circuit(SECTIONS, STEPS, (1, 3)), (SECTIONS, pilots, memories, 2))

    def test_a_cut_with_step_0_as_a_begin(self):
        memories = (
            both(mark(1), (mark(2), ("cam", 1, 0), ("cam", 2, 0), KEY_0, KEY_1)),
            both(mark(2), (mark(0), ("cam", 1, 3), KEY_0)),
            both(mark(0), (mark(1), ("cam", 0, 0), ("cam", 2, 2), KEY_0)),
        )
        begins = [("or", (("and", (mark(m), KEY_0)),)) for m in range(3)]
        pilots = (
            (begins[0], begins[1]),
            (("or", (("and", (mark(0), ("cam", 0, 1), KEY_0)),)), begins[2]),
            (begins[1], begins[2]),
            (OFF, OFF),
        )
        self.assertEqual(group_circuit(SECTIONS, STEPS, (0, 2, 3)), (SECTIONS, pilots, memories, 2))

    def test_pistons_that_move_several_times(self):
        told = group_circuit(OUT_SECTIONS, OUT_STEPS, (0, 2, 3, 5))
        self.assertEqual(told[1][0], (
            ("or", (("and", (mark(1), KEY_0)), ("and", (mark(3), KEY_0)))),
            ("or", (("and", (mark(0), KEY_0)), ("and", (mark(2), KEY_0)))),
        ))
        self.assertEqual(told[1][2], (
            ("or", (("and", (mark(2), ("cam", 0, 0), KEY_0)),)),
            ("or", (("and", (mark(0), ("cam", 0, 0), KEY_0)),)),
        ))
        self.assertEqual(told[2][0], both(mark(1), (mark(3), ("cam", 0, 2), ("cam", 1, 1), KEY_0, KEY_1)))
        self.assertEqual(told[2][3], both(mark(0), (mark(2), ("cam", 2, 4), KEY_0)))

    def test_each_line_of_all_cuts_of_many_rounds(self):
        for sections, steps in [((2, 3), steps) for steps in small_rounds()] + some_rounds():
            for cut in cuts_of(steps)[::7] + [chain_cut(steps)]:
                told = group_circuit(sections, steps, cut)
                self.assertEqual(told, written_out(sections, steps, cut), (steps, cut))
                self.assertIs(made_circuit(told), told)

    def test_the_greatest_round(self):
        full = tuple(tuple((p, side) for p in range(6)) for side in (1, 0)) * 6
        steps = made_round((4,) * 6, full)
        made_circuit(group_circuit((4,) * 6, steps, chain_cut(steps)))


class GroupRestTest(unittest.TestCase):
    def test_the_mark_of_the_group_of_the_last_step_alone_is_1(self):
        self.assertEqual(group_rest(SECTIONS, STEPS, (1, 3)), ((0, 0, 0, 0), (0, 0, 0, 0), (0, 1), (0, 0)))
        self.assertEqual(group_rest(SECTIONS, STEPS, (0, 2, 3)), ((0, 0, 0, 0), (0, 0, 0, 0), (0, 0, 1), (0, 0)))
        told = group_rest(OUT_SECTIONS, OUT_STEPS, (0, 2, 3, 5))
        self.assertEqual(told, ((4, 2, 8), (1, 1, 1), (0, 0, 0, 1), (0, 0)))

    def test_all_cuts_of_many_rounds(self):
        for sections, steps in [((2, 3), steps) for steps in small_rounds()] + some_rounds():
            for cut in cuts_of(steps)[::7]:
                places = walked(sections, steps)[0]
                valves = tuple(1 if place > 0 else 0 for place in places)
                marks = (0,) * (len(cut) - 1) + (1,)
                told = group_rest(sections, steps, cut)
                self.assertEqual(told, (places, valves, marks, (0, 0)), (steps, cut))
                circuit = group_circuit(sections, steps, cut)
                self.assertIs(made_stand(circuit, told), told)
                self.assertIs(is_settled(circuit, told), True)


class NoCutTest(Refusals, unittest.TestCase):
    def refused(self, thing):
        self.assert_only(NoCut, group_circuit, SECTIONS, STEPS, thing)
        self.assert_only(NoCut, group_rest, SECTIONS, STEPS, thing)

    def test_tuples_that_are_no_cuts(self):
        for thing in ((), (0,), (3,), (0, 3), (1, 2), (3, 1), (1, 1, 3), (True, 3), (1, 4), (-1, 1), [1, 3], ([1], 3)):
            self.refused(thing)

    def test_anything_is_no_cut(self):
        for thing in anything():
            self.refused(thing)
            self.refused((thing,))

    def test_things_of_other_kinds_at_every_place(self):
        for path in paths((1, 3)):
            for thing in nowhere():
                self.refused(put((1, 3), path, thing))

    def test_arguments_are_left_alone_and_answers_are_equal(self):
        things = not_deep() + [[1, 3], [SECTIONS, STEPS]]
        kept = Unchanged(things)
        for thing in things:
            self.refused(thing)
        self.assertEqual(group_circuit(SECTIONS, STEPS, (1, 3)), group_circuit(SECTIONS, STEPS, (1, 3)))
        self.assertEqual(group_rest(SECTIONS, STEPS, (1, 3)), group_rest(SECTIONS, STEPS, (1, 3)))
        self.assertTrue(kept.holds())


class GoingTest(unittest.TestCase):
    def goes(self, sections, steps, cut):
        circuit, rest = group_circuit(sections, steps, cut), group_rest(sections, steps, cut)
        paper = walk(circuit, steps, rest)
        self.assertEqual(paper[0], "goes", (sections, steps, cut))
        self.assertIs(goes_by(circuit, steps, rest, paper), True)

    def test_all_cuts_of_small_rounds(self):
        for steps in small_rounds()[::2]:
            for cut in cuts_of(steps):
                self.goes((1, 1), steps, cut)

    def test_all_cuts_of_some_greater_rounds(self):
        for sections, steps in some_rounds()[:13]:
            for cut in cuts_of(steps):
                self.goes((1,) * len(sections), steps, cut)

    def test_pistons_with_more_sections(self):
        self.goes((2, 4), steps_of("a+ b+ b- a-"), (0, 2))
        self.goes((3, 2), steps_of("a+b+ a- b-"), (0, 1))


class ChainTest(unittest.TestCase):
    def test_all_steps_are_begins(self):
        self.assertEqual(chain_cut(STEPS), (0, 1, 2, 3))
        self.assertEqual(chain_cut(OUT_STEPS), (0, 1, 2, 3, 4, 5))
        for steps in small_rounds():
            self.assertEqual(chain_cut(steps), tuple(range(len(steps))))
            self.assertIs(is_cut(steps, chain_cut(steps)), True)

    def test_the_circuit_by_it(self):
        steps = steps_of("a+ a-")
        memories = (
            both(mark(1), (mark(1), ("cam", 0, 0), KEY_0, KEY_1)),
            both(mark(0), (mark(0), ("cam", 0, 2), KEY_0)),
        )
        pilots = ((("or", (("and", (mark(0), KEY_0)),)), ("or", (("and", (mark(1), KEY_0)),))),)
        self.assertEqual(group_circuit((2,), steps, chain_cut(steps)), ((2,), pilots, memories, 2))
        self.assertEqual(group_rest((2,), steps, chain_cut(steps)), ((0,), (0,), (0, 1), (0, 0)))


if __name__ == "__main__":
    unittest.main()

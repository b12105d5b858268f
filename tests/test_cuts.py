"""Points 2, 24 and 25: cuts."""

import itertools
import unittest

from pistonrounds.cuts import fewest_cut, greedy_cut, group_of, is_cut
from tests.some_rounds import OUT_STEPS, STEPS, small_rounds, some_rounds, steps_of
from tests.things import Unchanged, anything, not_deep, nowhere, paths, put


def all_steps():
    return small_rounds() + [steps for sections, steps in some_rounds()]


def groups_by(steps, begins):
    """The numbers of the steps of each group, by walking once around."""
    groups = []
    for begin in begins:
        group = [begin]
        at = (begin + 1) % len(steps)
        while at not in begins:
            group.append(at)
            at = (at + 1) % len(steps)
        groups.append(group)
    return groups


def is_told(steps, begins):
    """Whether numbers of steps, rising, are a cut, word by word of the document."""
    for group in groups_by(steps, begins):
        movers = [p for i in group for p, side in steps[i]]
        if len(movers) != len(set(movers)):
            return False
    return len(begins) > 0


def all_begins(steps):
    return [begins for size in range(len(steps) + 1) for begins in itertools.combinations(range(len(steps)), size)]


def all_cuts(steps):
    return [begins for begins in all_begins(steps) if is_told(steps, begins)]


class IsCutTest(unittest.TestCase):
    def cut(self, thing, steps=STEPS):
        self.assertIs(is_cut(steps, thing), True, thing)

    def no_cut(self, thing, steps=STEPS):
        self.assertIs(is_cut(steps, thing), False)

    def test_groups_in_which_no_piston_moves_twice(self):
        # Of a+ b+ a-c+ b-c- the steps 0 and 2, 1 and 3, 2 and 3 are never in one group.
        for thing in ((0, 2, 3), (1, 3), (1, 2, 3), (0, 1, 3), (0, 1, 2, 3)):
            self.cut(thing)

    def test_a_group_in_which_a_piston_moves_twice(self):
        for thing in ((0, 3), (0, 2), (0, 1), (0, 1, 2)):
            self.no_cut(thing)

    def test_a_piston_moves_twice_in_the_group_that_goes_on_at_step_0(self):
        self.no_cut((1, 2))
        self.no_cut((2, 3))
        steps = steps_of("a+ a- b+ b-")
        self.cut((1, 3), steps)
        self.no_cut((1, 2), steps)
        steps = steps_of("b- a+ b+ a-")
        self.cut((0, 2), steps)
        self.cut((1, 3), steps)
        self.no_cut((1, 2), steps)

    def test_numbers_that_do_not_rise(self):
        self.no_cut((3, 1))
        self.no_cut((0, 3, 2))
        self.no_cut((2, 0, 3))
        self.no_cut((3, 2, 1, 0))

    def test_one_number_twice(self):
        self.no_cut((1, 1, 3))
        self.no_cut((1, 3, 3))
        self.no_cut((0, 1, 2, 3, 3))
        self.no_cut((0, 0, 1, 2, 3))

    def test_numbers_that_are_not_there(self):
        for number in (-4, -1, 4, 5, 10 ** 999, -(10 ** 999)):
            self.no_cut(tuple(sorted((1, 3, number))))
            self.no_cut((number,))
        self.no_cut((-1, 1))
        self.no_cut((-3, -1))

    def test_true_is_no_number(self):
        self.no_cut((True, 3))
        self.no_cut((False, 2, 3))
        self.no_cut((0, True, 2, 3))

    def test_lists_are_no_tuples(self):
        self.no_cut([1, 3])
        self.no_cut([])
        self.no_cut(([1], 3))
        self.no_cut(((1,), (3,)))

    def test_none_and_one_begin_alone(self):
        for steps in all_steps():
            self.no_cut((), steps)
            for begin in range(len(steps)):
                self.no_cut((begin,), steps)

    def test_all_begins_of_all_rounds(self):
        for steps in all_steps():
            for begins in all_begins(steps)[:600]:
                self.assertIs(is_cut(steps, begins), is_told(steps, begins), (steps, begins))

    def test_anything_is_no_cut(self):
        for thing in anything():
            self.no_cut(thing)
            self.no_cut((thing,))
            if isinstance(thing, (bool, bytes)) or thing not in (1, 3):
                self.no_cut((1, thing))
                self.no_cut((thing, 3))
        self.no_cut(tuple(range(1300)))

    def test_things_of_other_kinds_at_every_place(self):
        for path in paths((1, 3)):
            for thing in nowhere():
                self.no_cut(put((1, 3), path, thing))

    def test_arguments_are_left_alone_and_answers_are_equal(self):
        things = not_deep() + [[1, 3]]
        kept = Unchanged(things)
        for thing in things:
            self.no_cut(thing)
            self.no_cut(thing)
        self.assertTrue(kept.holds())


class GroupOfTest(unittest.TestCase):
    def test_a_cut_that_begins_with_0(self):
        self.assertEqual([group_of(STEPS, (0, 2, 3), i) for i in range(4)], [0, 0, 1, 2])
        self.assertEqual([group_of(STEPS, (0, 1, 2, 3), i) for i in range(4)], [0, 1, 2, 3])

    def test_a_cut_that_does_not(self):
        self.assertEqual([group_of(STEPS, (1, 3), i) for i in range(4)], [1, 0, 0, 1])
        self.assertEqual([group_of(STEPS, (1, 2, 3), i) for i in range(4)], [2, 0, 1, 2])
        steps = steps_of("a+ b+ c+ a- b- c-")
        self.assertEqual([group_of(steps, (2, 5), i) for i in range(6)], [1, 1, 0, 0, 0, 1])

    def test_all_cuts(self):
        for steps in all_steps():
            for cut in all_cuts(steps)[:200]:
                for number, group in enumerate(groups_by(steps, cut)):
                    for i in group:
                        self.assertEqual(group_of(steps, cut, i), number, (steps, cut))


class GreedyCutTest(unittest.TestCase):
    def test_from_each_step(self):
        self.assertEqual([greedy_cut(STEPS, b) for b in range(4)], [(0, 2, 3), (1, 3), (1, 2, 3), (1, 3)])

    def test_groups_end_ahead_of_b_at_the_latest(self):
        steps = steps_of("a+ b+ c+ a- b- c-")
        self.assertEqual([greedy_cut(steps, b) for b in range(6)], [(0, 3), (1, 4), (2, 5), (0, 3), (1, 4), (2, 5)])
        # From step 1 on the last group has step 0 alone, though step 1 might go on in it.
        steps = steps_of("a+ b+ b- a-")
        self.assertEqual([greedy_cut(steps, b) for b in range(4)], [(0, 2), (0, 1, 2), (0, 2), (0, 2, 3)])

    def test_it_goes_on_around(self):
        self.assertEqual(greedy_cut(OUT_STEPS, 5), (0, 2, 3, 5))
        # The group of step 3 has step 0, too, whether the cut is told from 1 or from 3 on.
        self.assertEqual(greedy_cut(steps_of("a+ a- b+ b-"), 1), (1, 3))
        self.assertEqual(greedy_cut(steps_of("a+ a- b+ b-"), 3), (1, 3))

    def test_told_rising_with_b_in_it_and_a_cut(self):
        for steps in all_steps():
            for b in range(len(steps)):
                told = greedy_cut(steps, b)
                self.assertIs(type(told), tuple)
                self.assertIn(b, told)
                self.assertEqual(list(told), sorted(set(told)))
                self.assertIs(is_told(steps, told), True)

    def test_each_group_goes_on_as_long_as_it_may(self):
        for steps in all_steps():
            for b in range(len(steps)):
                told = greedy_cut(steps, b)
                for group in groups_by(steps, told):
                    following = (group[-1] + 1) % len(steps)
                    if following != b:
                        movers = {p for i in group for p, side in steps[i]}
                        self.assertTrue(movers & {p for p, side in steps[following]}, (steps, told))


class FewestCutTest(unittest.TestCase):
    def test_the_fewest_groups(self):
        self.assertEqual(fewest_cut(STEPS), (1, 3))
        self.assertEqual(fewest_cut(steps_of("a+ b+ c+ a- b- c-")), (0, 3))
        self.assertEqual(fewest_cut(steps_of("a+ a- a+ a-")), (0, 1, 2, 3))

    def test_of_several_that_from_the_least_b(self):
        # (0, 3) from 0, (1, 4) from 1, (2, 5) from 2.
        self.assertEqual(fewest_cut(steps_of("a+ b+ c+ a- b- c-")), (0, 3))
        # From 0 there are three groups; from 1 and from 3 two; from 2 three.
        self.assertEqual(fewest_cut(steps_of("a+ a- b+ b-")), (1, 3))

    def test_for_all_rounds_the_first_of_the_fewest_greedy_ones(self):
        for steps in all_steps():
            cuts = [greedy_cut(steps, b) for b in range(len(steps))]
            fewest = min(len(cut) for cut in cuts)
            self.assertEqual(fewest_cut(steps), [cut for cut in cuts if len(cut) == fewest][0])

    def test_no_cut_at_all_has_fewer_groups(self):
        for steps in all_steps():
            self.assertEqual(len(fewest_cut(steps)), min(len(cut) for cut in all_cuts(steps)), steps)

    def test_arguments_are_left_alone_and_answers_are_equal(self):
        kept = Unchanged([STEPS])
        self.assertEqual(fewest_cut(STEPS), fewest_cut(STEPS))
        self.assertEqual(greedy_cut(STEPS, 2), greedy_cut(STEPS, 2))
        self.assertTrue(kept.holds())


if __name__ == "__main__":
    unittest.main()

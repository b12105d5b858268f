"""Points 2 and 28: steps that are apart, needs, and how many memories are needed."""

import itertools
import unittest

from pistonrounds.needs import are_apart, is_need, marks_needed, need_of
from pistonrounds.rounds import made_round
from tests.some_rounds import OUT_SECTIONS, OUT_STEPS, small_rounds, some_rounds, steps_of, walked
from tests.things import Unchanged, anything, not_deep, nowhere, paths, put

# Each of these goes out and in alone: so ahead of each second step all are in.
THREE = steps_of("a+ a- b+ b- c+ c-")
ONES = (1, 1, 1)


def all_rounds():
    return [((1, 2), steps) for steps in small_rounds()] + some_rounds()


def told_apart(sections, steps, i, j):
    """Whether two steps are apart, word by word of the document."""
    rows = walked(sections, steps)
    if rows[i] != rows[j]:
        return False
    for k in range(3 * len(steps)):
        first, second = set(steps[(i + k) % len(steps)]), set(steps[(j + k) % len(steps)])
        if first != second:
            return not first & second
    return False


def told_needs(sections, steps):
    """All needs, by going through all tuples of steps."""
    many = range(len(steps))
    apart = {(i, j) for i in many for j in many if told_apart(sections, steps, i, j)}
    return [
        need for size in many for need in itertools.combinations(many, size + 1)
        if all(pair in apart for pair in itertools.combinations(need, 2))
    ]


class AreApartTest(unittest.TestCase):
    def apart(self, text, i, j, sections=ONES):
        steps = made_round(sections, steps_of(text))
        self.assertIs(are_apart(sections, steps, i, j), True)
        self.assertIs(are_apart(sections, steps, j, i), True)

    def not_apart(self, text, i, j, sections=ONES):
        steps = made_round(sections, steps_of(text))
        self.assertIs(are_apart(sections, steps, i, j), False)
        self.assertIs(are_apart(sections, steps, j, i), False)

    def test_the_first_unlike_steps_have_no_move_in_common(self):
        self.apart("a+ a- b+ b- c+ c-", 0, 2)
        self.apart("a+ a- b+ b- c+ c-", 2, 4)
        self.apart("a+ a- b+ b- c+ c-", 0, 4)

    def test_one_step_and_itself(self):
        for i in range(6):
            self.not_apart("a+ a- b+ b- c+ c-", i, i)

    def test_places_that_differ(self):
        for i, j in ((0, 1), (1, 2), (1, 3), (3, 5), (0, 5)):
            self.not_apart("a+ a- b+ b- c+ c-", i, j)

    def test_the_same_steps_around_for_ever(self):
        self.not_apart("a+ a- a+ a-", 0, 2)
        self.not_apart("a+ a- a+ a-", 1, 3)
        self.not_apart("a+ b+ a- b- a+ b+ a- b-", 1, 5)

    def test_the_first_unlike_steps_come_later(self):
        self.apart("a+ a- b+ b- a+ a- c+ c-", 0, 4)
        self.apart("a+ a- b+ b- a+ a- c+ c-", 1, 5)
        # Here this is so only behind the last step, around.
        self.apart("b+ b- a+ a- c+ c- a+ a-", 2, 6)

    def test_the_first_unlike_steps_have_a_move_in_common(self):
        self.not_apart("a+b+ a-b- a+ a-", 0, 2)
        self.not_apart("a+b+ a-b- a+c+ a-c-", 0, 2)
        self.not_apart("c+ c- a+ b+ a- b- c+ c- a+b+ a-b-", 0, 6)
        # Here they have the same piston in common, but not the same move, further on only.
        self.apart("a+b+ a-b- c+ c-", 0, 2)

    def test_later_steps_do_not_count(self):
        # Steps 0 and 2 have no move in common; 1 and 3 have none either, but 4 and 0 have.
        self.apart("a+ a- b+ b- a+c+ a-c-", 0, 2)
        self.not_apart("a+ a- b+ b- a+c+ a-c-", 0, 4)
        self.apart("a+ a- b+ b- a+c+ a-c-", 2, 4)

    def test_all_pairs_of_steps(self):
        for sections, steps in all_rounds():
            for i, j in itertools.product(range(len(steps)), repeat=2):
                self.assertIs(are_apart(sections, steps, i, j), told_apart(sections, steps, i, j), (steps, i, j))


class IsNeedTest(unittest.TestCase):
    def need(self, thing, steps=THREE):
        self.assertIs(is_need(ONES, steps, thing), True, thing)

    def no_need(self, thing, steps=THREE):
        self.assertIs(is_need(ONES, steps, thing), False)

    def test_none_one_and_several(self):
        self.no_need(())
        for i in range(6):
            self.need((i,))
        for thing in ((0, 2), (2, 4), (0, 4), (0, 2, 4)):
            self.need(thing)

    def test_two_that_are_not_apart(self):
        for thing in ((0, 1), (1, 3), (3, 5), (0, 2, 3), (0, 2, 4, 5), (1, 2, 4), (0, 3, 4), (0, 1, 2, 3, 4, 5)):
            self.no_need(thing)

    def test_each_two_of_them(self):
        # 0 and 2, 2 and 4 are apart, but 0 and 4 have a move in common.
        steps = steps_of("a+ a- b+ b- a+c+ a-c-")
        self.need((0, 2), steps)
        self.need((2, 4), steps)
        self.no_need((0, 2, 4), steps)
        self.no_need((0, 4), steps)

    def test_numbers_that_do_not_rise_and_one_twice(self):
        for thing in ((2, 0), (4, 2, 0), (0, 4, 2), (0, 0), (0, 2, 2), (0, 0, 2), (2, 2)):
            self.no_need(thing)

    def test_steps_that_are_not_there(self):
        for number in (-6, -4, -2, -1, 6, 8, 10 ** 999, -(10 ** 999)):
            self.no_need((number,))
            self.no_need(tuple(sorted((0, 2, number))))

    def test_true_is_no_number(self):
        self.need((1,))
        self.no_need((True,))
        self.need((0, 2))
        self.no_need((False, 2))
        self.no_need((False,))

    def test_lists_are_no_tuples(self):
        for thing in ([], [0], [0, 2], ([0], 2), ((0,), (2,)), ((0, 2),)):
            self.no_need(thing)

    def test_anything_is_no_need(self):
        for thing in anything():
            self.no_need(thing)
            if isinstance(thing, (bool, bytes)) or thing not in (0, 2):
                self.no_need((0, thing))
                self.no_need((thing, 4))
        self.no_need(tuple(range(1300)))

    def test_things_of_other_kinds_at_every_place(self):
        for path in paths((0, 2, 4)):
            for thing in nowhere():
                self.no_need(put((0, 2, 4), path, thing))

    def test_all_tuples_of_steps(self):
        for sections, steps in all_rounds():
            if len(steps) <= 8:
                right = set(told_needs(sections, steps))
                for size in range(len(steps) + 1):
                    for thing in itertools.combinations(range(len(steps)), size):
                        self.assertIs(is_need(sections, steps, thing), thing in right, (steps, thing))

    def test_arguments_are_left_alone_and_answers_are_equal(self):
        things = not_deep() + [[0, 2]]
        kept = Unchanged(things)
        for thing in things:
            self.no_need(thing)
            self.no_need(thing)
        self.assertTrue(kept.holds())


class NeedOfTest(unittest.TestCase):
    def test_the_most_steps(self):
        self.assertEqual(need_of(ONES, THREE), (0, 2, 4))
        self.assertEqual(len(need_of((1, 1), steps_of("a+ b+ a- b-"))), 1)

    def test_it_is_a_need_and_none_has_more_steps(self):
        for sections, steps in all_rounds():
            told = need_of(sections, steps)
            self.assertIs(is_need(sections, steps, told), True)
            self.assertEqual(len(told), max(len(need) for need in told_needs(sections, steps)), steps)

    def test_not_the_first_that_is_found(self):
        # Of the steps at which all are in, 0 is apart from none but 2; 2, 4 and 6 are apart from one another.
        steps = steps_of("a+b+ a-b- c+ c- a+ a- b+ b-")
        self.assertEqual(told_apart(ONES, steps, 0, 4), False)
        self.assertEqual(need_of(ONES, steps), (2, 4, 6))

    def test_arguments_are_left_alone_and_answers_are_equal(self):
        things = [OUT_SECTIONS, OUT_STEPS]
        kept = Unchanged(things)
        self.assertEqual(need_of(*things), need_of(*things))
        self.assertEqual(marks_needed(*things), marks_needed(*things))
        self.assertTrue(kept.holds())


class MarksNeededTest(unittest.TestCase):
    def test_needs_of_one_to_six_steps(self):
        self.assertEqual(marks_needed((1, 1), steps_of("a+ b+ a- b-")), 0)
        for many, marks in ((1, 0), (2, 1), (3, 2), (4, 2), (5, 3), (6, 3)):
            steps = steps_of(" ".join(f"{letter}+ {letter}-" for letter in "abcdef"[:many]))
            self.assertEqual(len(need_of((1,) * many, steps)), many)
            self.assertEqual(marks_needed((1,) * many, steps), marks)

    def test_all_rounds(self):
        for sections, steps in all_rounds():
            most = max(len(need) for need in told_needs(sections, steps))
            told = marks_needed(sections, steps)
            self.assertIs(type(told), int)
            self.assertEqual(told, [n for n in range(5) if 2 ** n >= most][0])


if __name__ == "__main__":
    unittest.main()

"""Points 2, 4 and 5: lines."""

import unittest

from pistonrounds.lines import depth_of, is_line
from tests.things import OFF, ON, Unchanged, anything, nested, not_deep, nots, of_size

SECTIONS = (1, 4, 2)
EACH_KIND = (
    ("cam", 1, 3), ("mark", 2), ("key", 1),
    ("and", (("cam", 0, 0), ("mark", 0))), ("or", (("key", 0), ("cam", 2, 2))), ("not", ("cam", 2, 1)),
)


def told(thing, sections=SECTIONS, marks=3, keys=2):
    return is_line(sections, marks, keys, thing)


class EachKindTest(unittest.TestCase):
    def test_each_kind_is_a_line(self):
        for line in EACH_KIND:
            self.assertIs(told(line), True, line)

    def test_a_word_more_or_a_part_less_is_none(self):
        for line in EACH_KIND:
            self.assertIs(told(line[:-1]), False, line)
            self.assertIs(told(line + (0,)), False, line)
            self.assertIs(told(line + ("cam",)), False, line)
            self.assertIs(told(line[1:]), False, line)
            self.assertIs(told(line[:1]), False, line)

    def test_other_words_are_none(self):
        for line in EACH_KIND:
            for word in ("", "cam ", "Cam", "nor", "valve", b"cam", b"and", b"not", b"mark", 0, None, True, ("and",)):
                self.assertIs(told((word,) + line[1:]), False, (word, line))

    def test_a_list_is_never_a_tuple(self):
        for line in EACH_KIND:
            self.assertIs(told(list(line)), False, line)
        for word in ("and", "or"):
            self.assertIs(told((word, [])), False)
            self.assertIs(told((word, [("mark", 0)])), False)
            self.assertIs(told((word, (["mark", 0],))), False)
        self.assertIs(told(("not", ["mark", 0])), False)

    def test_parts_are_a_tuple_and_the_line_of_a_not_is_a_line(self):
        for thing in not_deep():
            if thing != ():
                self.assertIs(told(("and", thing)), False, repr(thing)[:80])
                self.assertIs(told(("or", thing)), False, repr(thing)[:80])
            self.assertIs(told(("not", thing)), False, repr(thing)[:80])
            self.assertIs(told(("and", (("mark", 0), thing))), False, repr(thing)[:80])
            self.assertIs(told(("or", (thing, ("mark", 0)))), False, repr(thing)[:80])
        self.assertIs(told(("and", ("mark", 0))), False)
        self.assertIs(told(("not", (("mark", 0),))), False)
        self.assertIs(told(("not", ())), False)


class NumbersTest(unittest.TestCase):
    def test_cams_are_0_to_the_sections(self):
        for sections in ((1,), (4,), (2, 3), SECTIONS, (1, 2, 3, 4, 1, 2)):
            for p, many in enumerate(sections):
                fitting = [j for j in range(-3, 9) if told(("cam", p, j), sections)]
                self.assertEqual(fitting, list(range(many + 1)), (sections, p))

    def test_pistons_at_their_bounds(self):
        for sections in ((1,), (2, 2), (3,) * 6):
            fitting = [p for p in range(-8, 9) if told(("cam", p, 0), sections)]
            self.assertEqual(fitting, list(range(len(sections))))

    def test_marks_at_their_bounds(self):
        for marks in (0, 1, 5, 12):
            fitting = [m for m in range(-13, 15) if told(("mark", m), marks=marks)]
            self.assertEqual(fitting, list(range(marks)))

    def test_keys_at_their_bounds(self):
        for keys in (0, 1, 2, 3):
            fitting = [k for k in range(-5, 6) if told(("key", k), keys=keys)]
            self.assertEqual(fitting, list(range(keys)))

    def test_marks_and_keys_are_not_taken_for_one_another(self):
        self.assertIs(is_line((1,), 3, 1, ("mark", 2)), True)
        self.assertIs(is_line((1,), 3, 1, ("key", 2)), False)
        self.assertIs(is_line((1,), 1, 3, ("mark", 2)), False)
        self.assertIs(is_line((1,), 1, 3, ("key", 2)), True)

    def test_what_is_no_int_is_no_number(self):
        for thing in [True, False, "0", None, (0,), [0], b"0", {}, 10 ** 999, -(10 ** 999)]:
            for line in (("cam", thing, 0), ("cam", 0, thing), ("mark", thing), ("key", thing)):
                self.assertIs(told(line), False, line)
                self.assertIs(told(("or", (line,))), False, line)

    def test_what_is_not_there_is_found_within_others(self):
        for line in (("cam", 3, 0), ("cam", 0, 2), ("mark", 3), ("key", 2), ("cam", 0, True)):
            self.assertIs(told(line), False)
            self.assertIs(told(nots(6, line)), False)
            self.assertIs(told(("and", (("mark", 0), ("or", (ON, line))))), False)


class PartsAndDepthTest(unittest.TestCase):
    def test_parts_of_0_to_12_lines(self):
        for word in ("and", "or"):
            fitting = [many for many in range(20) if told((word, (("mark", 0),) * many))]
            self.assertEqual(fitting, list(range(13)))
            self.assertIs(told(("not", (word, (("key", 0),) * 13))), False)

    def test_depth(self):
        for line in (("cam", 0, 0), ("mark", 0), ("key", 0), ON, OFF):
            for depth in range(1, 7):
                self.assertEqual(depth_of(nots(depth, line)), depth)

    def test_depth_goes_by_the_deepest_part(self):
        self.assertEqual(depth_of(("and", (("mark", 0), nots(3, OFF), ("not", ON)))), 4)
        self.assertEqual(depth_of(("or", (nots(4, ON), ("key", 0)))), 5)
        self.assertEqual(depth_of(("or", (("key", 0), ON))), 2)
        self.assertEqual(depth_of(("not", ("and", (("or", (ON,)),)))), 4)

    def test_no_line_is_more_than_6_deep(self):
        for line in (("cam", 0, 0), ("mark", 0), ("key", 0), ON, OFF):
            for depth in range(1, 12):
                self.assertIs(told(nots(depth, line)), depth <= 6, (line, depth))
        for word in ("and", "or"):
            for depth in range(1, 12):
                line = nested(depth - 1, lambda inner: (word, (("mark", 0), inner)), ON)
                self.assertIs(told(line), depth <= 6, depth)

    def test_2000_lines_are_still_a_line(self):
        inner = of_size(157)
        line = ("or", (inner,) * 12 + ())
        self.assertIs(told(line), True)
        parts = (inner,) * 11 + (("and", (of_size(157), of_size(114))),)
        self.assertIs(told(("or", parts)), True)


class AnythingTest(unittest.TestCase):
    def test_anything_is_no_line(self):
        for thing in anything():
            self.assertIs(told(thing), False)

    def test_a_great_part_many_times_over_is_answered(self):
        great = nested(39, lambda inner: ("and", (inner,) * 12), ON)
        self.assertIs(told(great), False)

    def test_arguments_are_left_alone_and_answers_are_equal(self):
        things = not_deep() + [list(line) for line in EACH_KIND]
        kept = Unchanged(things)
        first = [told(thing) for thing in things]
        self.assertEqual([told(thing) for thing in things], first)
        self.assertTrue(kept.holds())
        self.assertEqual([depth_of(line) for line in EACH_KIND], [depth_of(line) for line in EACH_KIND])


if __name__ == "__main__":
    unittest.main()

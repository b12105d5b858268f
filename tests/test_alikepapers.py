"""Points 2 and 29: stands that look alike, papers that two circuits are alike, and papers of where they part."""

import unittest

from pistonrounds.alikepapers import alike_by, apart_by, look_alike
from pistonrounds.answering import is_settled
from pistonrounds.circuits import made_circuit
from pistonrounds.events import after
from pistonrounds.groups import chain_cut, group_circuit, group_rest
from pistonrounds.plain import plain_circuit, plain_rest
from pistonrounds.runs import run
from pistonrounds.stands import made_stand
from tests.some_rounds import BLINKING, BLINKING_REST, STILL, pairs_from, steps_of
from tests.things import OFF, Unchanged, anything, follow, not_deep, nowhere, paths, put, within

# A round without clashes: its plain circuit and its chain circuit are alike from their rests.
STEPS = steps_of("a+ b+ a- b-")
ONE, STAND = plain_circuit((1, 1), STEPS), plain_rest((1, 1), STEPS)
OTHER = group_circuit((1, 1), STEPS, chain_cut(STEPS))
BESIDE = group_rest((1, 1), STEPS, chain_cut(STEPS))
# A round with clashes: these part as soon as key 0 is turned.
BAD_STEPS = steps_of("a+ a- b+ b-")
BAD, BAD_STAND = plain_circuit((1, 1), BAD_STEPS), plain_rest((1, 1), BAD_STEPS)
GOOD = group_circuit((1, 1), BAD_STEPS, chain_cut(BAD_STEPS))
GOOD_STAND = group_rest((1, 1), BAD_STEPS, chain_cut(BAD_STEPS))
TURN_0, TURN_1, GO_0, GO_1 = ("turn", 0), ("turn", 1), ("go", 0), ("go", 1)
PAIRS = pairs_from(ONE, STAND, OTHER, BESIDE)


class LookAlikeTest(unittest.TestCase):
    def told(self, stand, beside, one=ONE, other=OTHER):
        made_stand(one, stand)
        made_stand(other, beside)
        swapped = look_alike(other, beside, one, stand)
        told = look_alike(one, stand, other, beside)
        self.assertIs(told, swapped)
        return told

    def test_alike_whatever_the_marks(self):
        self.assertIs(self.told(STAND, BESIDE), True)
        for stand, beside in PAIRS:
            self.assertIs(self.told(stand, beside), True)
        self.assertIs(self.told(STAND, (BESIDE[0], BESIDE[1], (1, 1, 0, 1), BESIDE[3])), True)

    def test_other_places(self):
        self.assertIs(self.told(((0, 0), (0, 0), (), (0, 0)), ((2, 0), (1, 0), (0, 0, 0, 1), (0, 0))), False)
        self.assertIs(self.told(((0, 1), (0, 1), (), (0, 0)), ((0, 0), (0, 1), (0, 0, 0, 1), (0, 0))), False)

    def test_other_keys(self):
        self.assertIs(self.told(((0, 0), (0, 0), (), (0, 0)), ((0, 0), (0, 0), (0, 0, 0, 1), (0, 1))), False)
        self.assertIs(self.told(((0, 0), (0, 0), (), (0, 1)), ((0, 0), (0, 0), (0, 0, 0, 1), (1, 0))), False)

    def test_what_can_go_differs(self):
        self.assertIs(self.told(((0, 0), (0, 0), (), (1, 1)), ((0, 0), (1, 0), (0, 0, 0, 1), (1, 1))), False)
        self.assertIs(self.told(((1, 0), (0, 0), (), (1, 1)), ((1, 0), (1, 0), (0, 0, 0, 1), (1, 1))), False)
        self.assertIs(self.told(((1, 1), (0, 1), (), (1, 1)), ((1, 1), (0, 0), (0, 0, 0, 1), (1, 1))), False)
        self.assertIs(self.told(((1, 1), (0, 1), (), (1, 1)), ((1, 1), (0, 1), (0, 0, 0, 1), (1, 1))), True)


class AlikeByTest(unittest.TestCase):
    def told(self, paper, one=ONE, stand=STAND, other=OTHER, beside=BESIDE):
        return alike_by(one, stand, other, beside, paper)

    def refused(self, paper, **given):
        self.assertIs(self.told(paper, **given), False)

    def test_all_pairs_that_come(self):
        self.assertGreater(len(PAIRS), 20)
        self.assertIs(self.told(("alike", PAIRS)), True)

    def test_the_two_the_other_way(self):
        pairs = tuple(sorted((beside, stand) for stand, beside in PAIRS))
        self.assertIs(alike_by(OTHER, BESIDE, ONE, STAND, ("alike", pairs)), True)
        self.refused(("alike", pairs))

    def test_a_circuit_and_itself(self):
        pairs = pairs_from(ONE, STAND, ONE, STAND)
        self.assertIs(alike_by(ONE, STAND, ONE, STAND, ("alike", pairs)), True)

    def test_from_each_pair_among_them(self):
        for stand, beside in PAIRS:
            self.assertIs(self.told(("alike", PAIRS), stand=stand, beside=beside), True)

    def test_a_pair_missing(self):
        for at in range(len(PAIRS)):
            self.refused(("alike", PAIRS[:at] + PAIRS[at + 1:]))

    def test_a_pair_that_does_not_look_alike(self):
        pair = (((0, 0), (0, 0), (), (0, 0)), ((0, 0), (0, 0), (0, 0, 0, 1), (0, 1)))
        self.assertIs(is_settled(ONE, pair[0]) and is_settled(OTHER, pair[1]), True)
        self.refused(("alike", tuple(sorted(PAIRS + (pair,)))))
        pair = (((1, 0), (0, 0), (), (0, 0)), ((1, 0), (1, 0), (0, 0, 0, 1), (0, 0)))
        self.assertIs(is_settled(ONE, pair[0]) and is_settled(OTHER, pair[1]), True)
        self.refused(("alike", tuple(sorted(PAIRS + (pair,)))))

    def test_pairs_that_do_not_come_from_the_two(self):
        free = made_circuit(((1,), ((("cam", 0, 0), ("cam", 0, 1)),), ((OFF, OFF),), 0))
        stands = [((0,), (1,), (mark,), ()) for mark in (0, 1)]
        first = pairs_from(free, stands[0], free, stands[0])
        second = pairs_from(free, stands[1], free, stands[0])
        both = tuple(sorted(first + second))
        self.assertEqual(len(both), 8)
        self.assertIs(alike_by(free, stands[0], free, stands[0], ("alike", both)), True)
        for pair in second:
            left = tuple(other for other in both if other != pair)
            self.assertIs(alike_by(free, stands[0], free, stands[0], ("alike", left)), False)

    def test_the_given_ones_are_not_among_them(self):
        self.refused(("alike", ()))
        free = made_circuit(((1,), ((("cam", 0, 0), ("cam", 0, 1)),), ((OFF, OFF),), 0))
        stands = [((0,), (1,), (mark,), ()) for mark in (0, 1)]
        pairs = pairs_from(free, stands[0], free, stands[1])
        for first, second in ((0, 0), (1, 0), (1, 1)):
            self.assertIs(alike_by(free, stands[first], free, stands[second], ("alike", pairs)), False)
        self.assertIs(alike_by(free, stands[0], free, stands[1], ("alike", pairs)), True)

    def test_pairs_that_do_not_rise(self):
        self.refused(("alike", PAIRS[::-1]))
        for at in range(len(PAIRS) - 1):
            self.refused(("alike", PAIRS[:at] + (PAIRS[at + 1], PAIRS[at]) + PAIRS[at + 2:]))

    def test_one_pair_twice(self):
        for at in range(len(PAIRS)):
            self.refused(("alike", PAIRS[:at + 1] + PAIRS[at:]))

    def test_stands_that_are_not_settled(self):
        one = made_circuit(((1,), ((OFF, OFF),), (follow(("key", 0)),), 1))
        pairs = pairs_from(one, ((0,), (0,), (0,), (0,)), one, ((0,), (0,), (0,), (0,)))
        self.assertEqual(len(pairs), 2)
        settled, unsettled = ((0,), (0,), (0,), (0,)), ((0,), (0,), (1,), (0,))
        self.assertIs(alike_by(one, settled, one, settled, ("alike", pairs)), True)
        for pair in ((settled, unsettled), (unsettled, settled), (unsettled, unsettled)):
            self.assertIs(look_alike(one, pair[0], one, pair[1]), True)
            more = tuple(sorted(pairs + (pair,)))
            self.assertIs(alike_by(one, settled, one, settled, ("alike", more)), False)

    def test_stands_that_are_none(self):
        for path in paths(PAIRS[3]):
            number = within(PAIRS[3], path)
            if isinstance(number, int):
                for other in (-1, 3, 7, str(number), None) + ((bool(number),) if number in (0, 1) else ()):
                    self.refused(("alike", put(PAIRS, (3,) + path, other)))
            elif len(path) > 0:
                self.refused(("alike", put(PAIRS, (3,) + path, number + (0,))))
                self.refused(("alike", put(PAIRS, (3,) + path, number[:-1]) if number else None))

    def test_stands_of_the_wrong_circuit(self):
        swapped = tuple(sorted((beside, stand) for stand, beside in PAIRS))
        self.refused(("alike", swapped))
        self.refused(("alike", tuple((stand, stand) for stand in sorted({stand for stand, beside in PAIRS}))))

    def test_pairs_of_one_or_three(self):
        for at in (0, 3):
            self.refused(("alike", put(PAIRS, (at,), PAIRS[at][:1])))
            self.refused(("alike", put(PAIRS, (at,), PAIRS[at] + PAIRS[at][:1])))
            self.refused(("alike", put(PAIRS, (at,), ())))

    def test_other_words(self):
        for word in ("apart", "Alike", "alike ", "", "goes", b"alike", None, 0, True, ("alike",), ["alike"]):
            self.refused((word, PAIRS))

    def test_lists_are_no_tuples(self):
        paper = ("alike", PAIRS)
        for path in paths(paper):
            before = within(paper, path)
            if isinstance(before, tuple) and path[1:2] in ((), (0,), (5,)):
                self.refused(put(paper, path, list(before)))

    def test_longer_and_shorter_papers(self):
        for paper in (("alike",), (PAIRS,), PAIRS, ("alike", PAIRS, ()), ("alike",) + PAIRS, (PAIRS, "alike"), ()):
            self.refused(paper)

    def test_circuits_that_part(self):
        turns = ((), (TURN_1,), (TURN_0,), (TURN_0, TURN_1))
        pairs = [(run(BAD, BAD_STAND, turned)[-1], run(GOOD, GOOD_STAND, turned)[-1]) for turned in turns]
        self.assertEqual([look_alike(BAD, stand, GOOD, beside) for stand, beside in pairs], [True, True, False, False])
        for many in range(1, 5):
            paper = ("alike", tuple(sorted(pairs[:many])))
            self.assertIs(alike_by(BAD, BAD_STAND, GOOD, GOOD_STAND, paper), False)

    def test_an_event_that_is_restless_in_both(self):
        pairs = pairs_from(BLINKING, BLINKING_REST, BLINKING, BLINKING_REST)
        self.assertEqual(len(pairs), 6)
        self.assertIs(alike_by(BLINKING, BLINKING_REST, BLINKING, BLINKING_REST, ("alike", pairs)), True)
        for at in range(6):
            left = pairs[:at] + pairs[at + 1:]
            self.assertIs(alike_by(BLINKING, BLINKING_REST, BLINKING, BLINKING_REST, ("alike", left)), False)

    def test_an_event_that_is_restless_in_just_one(self):
        pairs = pairs_from(BLINKING, BLINKING_REST, BLINKING, BLINKING_REST)
        for one, other in ((BLINKING, STILL), (STILL, BLINKING)):
            self.assertIs(alike_by(one, BLINKING_REST, other, BLINKING_REST, ("alike", pairs)), False)
        more = pairs_from(STILL, BLINKING_REST, STILL, BLINKING_REST)
        self.assertEqual(len(more), 8)
        self.assertIs(alike_by(STILL, BLINKING_REST, STILL, BLINKING_REST, ("alike", more)), True)
        for one, other in ((BLINKING, STILL), (STILL, BLINKING)):
            self.assertIs(alike_by(one, BLINKING_REST, other, BLINKING_REST, ("alike", more)), False)

    def test_anything_is_no_paper(self):
        for thing in anything():
            self.refused(thing)
            self.refused((thing, thing))
            self.refused(("alike", thing))
            self.refused(("alike", (thing,)))
            self.refused(("alike", ((thing, thing),)))
            self.refused(("alike", PAIRS + (thing,)))
            self.refused(("alike", PAIRS[:-1] + ((PAIRS[-1][0], thing),)))
            self.refused(("alike", ((thing, PAIRS[0][1]),) + PAIRS[1:]))
            self.refused((thing, PAIRS))

    def test_things_of_other_kinds_in_the_pairs(self):
        paper = ("alike", PAIRS)
        for path in paths(paper):
            if path[1:2] in ((), (0,), (7,)):
                for thing in nowhere():
                    self.refused(put(paper, path, thing))

    def test_arguments_are_left_alone_and_answers_are_equal(self):
        things = not_deep() + [["alike", list(PAIRS)], ("alike", list(PAIRS)), ("apart", [])]
        kept = Unchanged(things)
        for thing in things:
            for _ in range(2):
                self.refused(thing)
                self.assertIs(apart_by(ONE, STAND, OTHER, BESIDE, thing), False)
        self.assertTrue(kept.holds())
        self.assertIs(self.told(("alike", PAIRS)), self.told(("alike", PAIRS)))


class ApartByTest(unittest.TestCase):
    def let_by(self, events, one=BAD, stand=BAD_STAND, other=GOOD, beside=GOOD_STAND):
        paper = ("apart", events)
        self.assertIs(apart_by(one, stand, other, beside, paper), True)
        self.assertIs(apart_by(other, beside, one, stand, paper), True)
        self.assertIs(alike_by(one, stand, other, beside, paper), False)

    def refused(self, events, one=BAD, stand=BAD_STAND, other=GOOD, beside=GOOD_STAND):
        paper = ("apart", events)
        self.assertIs(apart_by(one, stand, other, beside, paper), False)
        self.assertIs(apart_by(other, beside, one, stand, paper), False)

    def test_no_event_where_the_given_stands_do_not_look_alike(self):
        self.let_by((), beside=after(GOOD, GOOD_STAND, TURN_1))
        self.let_by((), beside=after(GOOD, GOOD_STAND, TURN_0))
        turned = run(GOOD, GOOD_STAND, (TURN_0, TURN_1, GO_0))[-1]
        self.let_by((), GOOD, turned, GOOD, GOOD_STAND)
        free = made_circuit(((1,), ((OFF, OFF),), (), 0))
        self.let_by((), free, ((1,), (0,), (), ()), free, ((1,), (1,), (), ()))

    def test_no_event_where_they_look_alike(self):
        self.refused(())
        self.refused((), ONE, STAND, OTHER, BESIDE)

    def test_runs_behind_which_they_do_not_look_alike(self):
        self.let_by((TURN_0,))
        self.let_by((TURN_1, TURN_0))
        self.let_by((TURN_1, TURN_1, TURN_1, TURN_0))

    def test_pistons_go_ahead_of_the_last_event(self):
        # The other circuit holds piston 0 out until a key is turned, which this one has, too, but doesn't ask.
        one = made_circuit(((1,), ((("cam", 0, 0), ("cam", 0, 1)),), (), 1))
        other = made_circuit(((1,), ((("cam", 0, 0), ("and", (("cam", 0, 1), ("key", 0)))),), (), 1))
        stand = ((0,), (1,), (), (0,))
        self.let_by((GO_0, GO_0), one, stand, other, stand)
        self.refused((GO_0,), one, stand, other, stand)
        self.refused((GO_0, TURN_0, GO_0), one, stand, other, stand)
        self.let_by((TURN_0, TURN_0, GO_0, GO_0), one, stand, other, stand)
        self.let_by((GO_0, TURN_0, GO_0, GO_0, GO_0, GO_0, TURN_0, GO_0), one, stand, other, stand)

    def test_too_short(self):
        self.refused((TURN_1,))
        self.refused((TURN_1, TURN_1))

    def test_too_long(self):
        for event in (TURN_0, TURN_1, GO_1):
            self.refused((TURN_0, event))
            self.refused((TURN_1, TURN_0, event))
        # Behind the second turn they look alike again.
        self.refused((TURN_0, TURN_0))
        self.refused((TURN_0, TURN_0, TURN_0))

    def test_no_run_of_one_of_the_two(self):
        # Behind the turn piston 1 can go in the one alone.
        run(BAD, BAD_STAND, (TURN_0, GO_1))
        self.refused((TURN_0, GO_1))
        self.refused((GO_1,))
        free = made_circuit(((1,), ((OFF, OFF),), (), 0))
        for event in (GO_0, TURN_0):
            self.refused((event,), free, ((0,), (1,), (), ()), free, ((0,), (0,), (), ()))

    def test_what_is_no_run_of_either(self):
        for event in (
            GO_0, ("go", 2), ("turn", 2), ("turn", -1), ("turn", True), ("turn", False), ["turn", 0], ("turn",),
            ("turn", 0, 0), "turn", ("Turn", 0), ("key", 0), None,
        ):
            self.refused((event,))
            self.refused((TURN_1, event))
            self.refused((event, TURN_0))
        self.refused(TURN_0)

    def test_a_last_event_that_is_restless_in_just_one(self):
        for events in ((GO_0, TURN_0), (TURN_0, GO_0), (GO_0, GO_0, GO_0, TURN_0)):
            self.let_by(events, BLINKING, BLINKING_REST, STILL, BLINKING_REST)

    def test_a_last_event_that_is_restless_in_both(self):
        for events in ((GO_0, TURN_0), (TURN_0, GO_0), (GO_0, GO_0, GO_0, TURN_0)):
            self.refused(events, BLINKING, BLINKING_REST, BLINKING, BLINKING_REST)

    def test_a_restless_event_ahead_of_the_last(self):
        for last in (TURN_0, GO_0, None, ()):
            self.refused((GO_0, TURN_0, last), BLINKING, BLINKING_REST, STILL, BLINKING_REST)
            self.refused((GO_0, TURN_0, last), BLINKING, BLINKING_REST, BLINKING, BLINKING_REST)

    def test_a_restless_event_behind_stands_that_do_not_look_alike(self):
        stand, beside = ((1,), (1,), (0,), (0,)), ((1,), (0,), (0,), (0,))
        self.let_by((), BLINKING, stand, STILL, beside)
        self.refused((TURN_0,), BLINKING, stand, STILL, beside)

    def test_no_restless_event_at_all(self):
        self.refused((GO_0,), BLINKING, BLINKING_REST, STILL, BLINKING_REST)
        self.refused((GO_0, GO_0), BLINKING, BLINKING_REST, STILL, BLINKING_REST)

    def test_at_most_1200_events(self):
        self.let_by((TURN_1,) * 1199 + (TURN_0,))
        self.refused((TURN_1,) * 1200 + (TURN_0,))
        self.refused((TURN_1,) * 1200)
        self.let_by((GO_0,) * 1199 + (TURN_0,), BLINKING, BLINKING_REST, STILL, BLINKING_REST)
        self.refused((GO_0,) * 1201 + (TURN_0,), BLINKING, BLINKING_REST, STILL, BLINKING_REST)

    def test_circuits_that_are_alike_have_no_apart_paper(self):
        for events in ((), (TURN_0,), (TURN_0, TURN_1), (TURN_0, TURN_1, GO_0, GO_0, GO_1), (TURN_0, GO_0)):
            self.refused(events, ONE, STAND, OTHER, BESIDE)
        self.assertIs(apart_by(ONE, STAND, OTHER, BESIDE, ("alike", PAIRS)), False)

    def test_other_words_lists_longer_and_shorter_papers(self):
        right = (TURN_0,)
        for paper in (
            ("alike", right), ("Apart", right), ("", right), (b"apart", right), (None, right), (["apart"], right),
            ["apart", right], ("apart", [TURN_0]), ("apart", ["turn", 0]), ("apart",), ("apart", right, ()), right,
            (right,), (right, "apart"), ("apart", TURN_0), ("apart", None), (),
        ):
            self.assertIs(apart_by(BAD, BAD_STAND, GOOD, GOOD_STAND, paper), False)

    def test_anything_is_no_paper(self):
        turned = after(GOOD, GOOD_STAND, TURN_1)
        for thing in anything():
            self.assertIs(apart_by(BAD, BAD_STAND, GOOD, GOOD_STAND, thing), False)
            self.assertIs(apart_by(BAD, BAD_STAND, GOOD, GOOD_STAND, (thing, (TURN_0,))), False)
            self.refused(thing)
            self.refused((thing,))
            self.refused((TURN_1, thing))
            self.refused((thing, TURN_0))
            # Where the given stands don't look alike, () alone is a paper.
            self.assertIs(apart_by(BAD, BAD_STAND, GOOD, turned, ("apart", thing)), thing == ())


if __name__ == "__main__":
    unittest.main()

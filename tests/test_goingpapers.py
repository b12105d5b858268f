"""Points 2, 12, 20, 21 and 22: papers that a circuit goes its round, and papers that it doesn't."""

import unittest

from pistonrounds.answering import is_settled
from pistonrounds.circuits import made_circuit
from pistonrounds.events import events_of
from pistonrounds.goingpapers import goes_by, wrong_by
from pistonrounds.plain import plain_circuit, plain_rest
from pistonrounds.rounds import made_round
from pistonrounds.rows import is_right, next_row
from pistonrounds.runs import run
from tests.some_rounds import ALONE, BLINKING, BLINKING_REST, rows_from, small_rounds, some_rounds, steps_of
from tests.things import OFF, Unchanged, anything, not_deep, nowhere, paths, put, within

# This one goes its round.
STEPS = made_round((1, 1), steps_of("a+ b+ a- b-"))
CIRCUIT = plain_circuit((1, 1), STEPS)
REST = plain_rest((1, 1), STEPS)
ROWS = rows_from(CIRCUIT, STEPS, REST)
# This one doesn't: ahead of step 0 piston 0 is in, which calls step 2 as soon as key 0 is 1.
BAD_STEPS = made_round((1, 1), steps_of("a+ a- b+ b-"))
BAD_CIRCUIT = plain_circuit((1, 1), BAD_STEPS)
BAD_REST = plain_rest((1, 1), BAD_STEPS)


class GoesByTest(unittest.TestCase):
    def let_by(self, paper, circuit=CIRCUIT, steps=STEPS, stand=REST):
        self.assertIs(goes_by(circuit, steps, stand, paper), True)

    def refused(self, paper, circuit=CIRCUIT, steps=STEPS, stand=REST):
        self.assertIs(goes_by(circuit, steps, stand, paper), False)

    def test_all_rows_that_come(self):
        self.assertGreater(len(ROWS), 20)
        self.let_by(("goes", ROWS))

    def test_papers_of_several_rounds(self):
        let_by = 0
        for sections, steps in [((1, 1), steps) for steps in small_rounds()[::2]] + some_rounds()[:10]:
            circuit = plain_circuit(sections, steps)
            rest = plain_rest(sections, steps)
            rows = rows_from(circuit, steps, rest)
            if rows is not None:
                let_by += 1
                self.let_by(("goes", rows), circuit, steps, rest)
                self.refused(("goes", rows[1:]), circuit, steps, rest)
        self.assertGreater(let_by, 10)

    def test_from_each_stand_that_is_a_row_with_step_0(self):
        for stand, i in ROWS:
            if i == 0:
                self.let_by(("goes", ROWS), stand=stand)
            else:
                self.refused(("goes", ROWS), stand=stand)

    def test_one_row_missing(self):
        for at in range(len(ROWS)):
            self.refused(("goes", ROWS[:at] + ROWS[at + 1:]))

    def test_one_row_too_many_that_is_not_right(self):
        row = (((1, 0), (0, 0), (), (0, 0)), 0)
        self.assertIs(is_settled(CIRCUIT, row[0]), True)
        self.assertIs(is_right(CIRCUIT, STEPS, row), False)
        self.refused(("goes", tuple(sorted(ROWS + (row,)))))
        # With another step these would be no rows at all.
        for stand, i in ROWS:
            other = (stand, (i + 1) % 4)
            if other not in ROWS and not is_right(CIRCUIT, STEPS, other):
                self.refused(("goes", tuple(sorted(ROWS + (other,)))))

    def test_right_rows_that_do_not_come_from_the_stand(self):
        steps = steps_of("a+ a-")
        circuit = made_circuit(((1,), ((("cam", 0, 0), ("cam", 0, 1)),), ((OFF, OFF),), 0))
        first = rows_from(circuit, steps, ((0,), (1,), (0,), ()))
        second = rows_from(circuit, steps, ((0,), (1,), (1,), ()))
        self.assertEqual(len(first), 4)
        both = tuple(sorted(first + second))
        for mark in (0, 1):
            self.let_by(("goes", both), circuit, steps, ((0,), (1,), (mark,), ()))
        # Then what comes behind these has to be there, too.
        for row in second:
            left = tuple(other for other in both if other != row)
            self.refused(("goes", left), circuit, steps, ((0,), (1,), (0,), ()))

    def test_rows_that_do_not_rise(self):
        self.refused(("goes", ROWS[::-1]))
        for at in range(len(ROWS) - 1):
            self.refused(("goes", ROWS[:at] + (ROWS[at + 1], ROWS[at]) + ROWS[at + 2:]))

    def test_one_row_twice(self):
        for at in range(len(ROWS)):
            self.refused(("goes", ROWS[:at + 1] + ROWS[at:]))

    def test_the_first_row_is_not_among_them(self):
        self.refused(("goes", ()))
        # From here on nothing leads back to the other mark.
        steps = steps_of("a+ a-")
        circuit = made_circuit(((1,), ((("cam", 0, 0), ("cam", 0, 1)),), ((OFF, OFF),), 0))
        rows = rows_from(circuit, steps, ((0,), (1,), (0,), ()))
        self.let_by(("goes", rows), circuit, steps, ((0,), (1,), (0,), ()))
        self.refused(("goes", rows), circuit, steps, ((0,), (1,), (1,), ()))

    def test_other_words(self):
        for word in ("wrong", "Goes", "goes ", "", "go", "alike", b"goes", None, 0, True, ("goes",), ["goes"]):
            self.refused((word, ROWS))

    def test_lists_are_no_tuples(self):
        self.refused(["goes", ROWS])
        self.refused(("goes", list(ROWS)))
        paper = ("goes", ROWS)
        for path in paths(paper):
            before = within(paper, path)
            if isinstance(before, tuple) and path[1:2] in ((), (0,), (5,)):
                self.refused(put(paper, path, list(before)))

    def test_true_is_no_number(self):
        paper = ("goes", ROWS)
        for path in paths(paper):
            number = within(paper, path)
            if path[1:2] in ((0,), (9,)) and isinstance(number, int) and number in (0, 1):
                self.refused(put(paper, path, bool(number)))

    def test_longer_and_shorter_papers(self):
        self.refused(("goes",))
        self.refused((ROWS,))
        self.refused(ROWS)
        self.refused(("goes", ROWS, ()))
        self.refused(("goes",) + ROWS)
        self.refused((ROWS, "goes"))

    def test_a_circuit_that_does_not_go_the_round(self):
        # All right rows that come, without the one that isn't right.
        rows = {(BAD_REST, 0)}
        for row in [(BAD_REST, 0), (((0, 0), (0, 0), (), (0, 1)), 0)]:
            rows |= {next_row(BAD_CIRCUIT, BAD_STEPS, row, event) for event in events_of(BAD_CIRCUIT, row[0])}
        self.assertEqual(len(rows), 4)
        right = tuple(sorted(row for row in rows if is_right(BAD_CIRCUIT, BAD_STEPS, row)))
        self.assertEqual(len(right), 2)
        self.refused(("goes", right), BAD_CIRCUIT, BAD_STEPS, BAD_REST)
        self.refused(("goes", tuple(sorted(rows))), BAD_CIRCUIT, BAD_STEPS, BAD_REST)

    def test_a_circuit_of_another_round(self):
        self.refused(("goes", ROWS), CIRCUIT, BAD_STEPS)
        self.refused(("goes", ROWS), BAD_CIRCUIT, STEPS)

    def test_restless_behind_an_event_of_a_row(self):
        rows = tuple(sorted((
            (((0,), (1,), (0,), (0,)), 0), (((0,), (1,), (0,), (1,)), 0),
            (((1,), (1,), (0,), (0,)), 0),
            (((2,), (0,), (0,), (0,)), 1), (((2,), (0,), (0,), (1,)), 1),
            (((1,), (0,), (0,), (0,)), 1),
        )))
        for row in rows:
            self.assertIs(is_right(BLINKING, ALONE, row), True)
        self.refused(("goes", rows), BLINKING, ALONE, BLINKING_REST)
        # Without the memory that turns for ever the like is let by.
        still = made_circuit(((1,), BLINKING[1], ((OFF, OFF),), 1))
        more = tuple(sorted(rows + ((((1,), (1,), (0,), (1,)), 0), (((1,), (0,), (0,), (1,)), 1))))
        self.let_by(("goes", more), still, ALONE, BLINKING_REST)

    def test_anything_is_no_paper(self):
        for thing in anything():
            self.refused(thing)
            self.refused((thing, thing))
            self.refused(("goes", thing))
            self.refused(("goes", (thing,)))
            self.refused(("goes", ROWS + (thing,)))
            self.refused(("goes", (thing,) + ROWS))
            self.refused((thing, ROWS))

    def test_things_of_other_kinds_in_the_rows(self):
        paper = ("goes", ROWS)
        for path in paths(paper):
            if path[1:2] in ((), (0,), (7,)):
                for thing in nowhere():
                    self.refused(put(paper, path, thing))

    def test_arguments_are_left_alone_and_answers_are_equal(self):
        things = not_deep() + [["goes", list(ROWS)], ("goes", list(ROWS)), ("wrong", [])]
        kept = Unchanged(things)
        for thing in things:
            for _ in range(2):
                self.refused(thing)
                self.assertIs(wrong_by(CIRCUIT, STEPS, REST, thing), False)
        self.assertTrue(kept.holds())
        self.let_by(("goes", ROWS))
        self.let_by(("goes", ROWS))


class WrongByTest(unittest.TestCase):
    def let_by(self, events, circuit=BAD_CIRCUIT, steps=BAD_STEPS, stand=BAD_REST):
        self.assertIs(wrong_by(circuit, steps, stand, ("wrong", events)), True)
        self.assertIs(goes_by(circuit, steps, stand, ("wrong", events)), False)

    def refused(self, events, circuit=BAD_CIRCUIT, steps=BAD_STEPS, stand=BAD_REST):
        self.assertIs(wrong_by(circuit, steps, stand, ("wrong", events)), False)

    def test_no_event_where_the_first_pair_is_no_right_row(self):
        stand = ((0, 0), (0, 1), (), (1, 0))
        self.assertIs(is_settled(BAD_CIRCUIT, stand), True)
        self.let_by((), stand=stand)
        stand = ((0, 0), (0, 0), (), (1, 1))
        self.let_by((), made_circuit(((1, 1), ((OFF, OFF),) * 2, (), 2)), STEPS, stand)

    def test_no_event_where_the_first_pair_is_no_row_at_all(self):
        stand = ((2, 0), (1, 0), (), (0, 0))
        self.assertIs(is_settled(CIRCUIT, stand), True)
        self.let_by((), CIRCUIT, STEPS, stand)
        self.let_by((), CIRCUIT, STEPS, ((0, 1), (0, 0), (), (0, 0)))

    def test_no_event_where_the_first_pair_is_a_right_row(self):
        self.refused(())
        self.refused((), CIRCUIT, STEPS, REST)

    def test_the_last_event_leads_to_no_right_row(self):
        self.let_by((("turn", 0),))
        self.let_by((("turn", 1), ("turn", 0)))
        self.let_by((("turn", 1), ("turn", 1), ("turn", 1), ("turn", 1), ("turn", 0)))

    def test_pistons_go_ahead_of_the_last_event(self):
        # Once piston 0 has come out, it goes in by itself: step 1; then piston 1 and piston 0 both go.
        steps = made_round((1, 1), steps_of("a+ a- b+ b-"))
        pilots = (
            (("and", (("cam", 0, 0), ("cam", 1, 0))), ("cam", 0, 1)),
            (("and", (("cam", 0, 0), ("mark", 0))), ("cam", 1, 1)),
        )
        circuit = made_circuit(((1, 1), pilots, ((("cam", 0, 1), ("cam", 1, 1)),), 0))
        stand = ((0, 0), (1, 0), (0,), ())
        self.assertIs(is_settled(circuit, stand), True)
        events = (("go", 0),) * 4
        self.let_by(events, circuit, steps, stand)
        for at in range(4):
            self.refused(events[:at], circuit, steps, stand)
        self.refused(events + (("go", 1),), circuit, steps, stand)

    def test_too_short(self):
        self.refused((("turn", 1),))
        self.refused((("turn", 1), ("turn", 1)))

    def test_too_long(self):
        for event in (("turn", 0), ("turn", 1), ("go", 1)):
            events = (("turn", 0), event)
            run(BAD_CIRCUIT, BAD_REST, events)
            self.refused(events)
            self.refused((("turn", 1),) + events)
        # Behind the second turn the pair is a right row again, behind the third it isn't.
        self.refused((("turn", 0), ("turn", 0), ("turn", 0)))
        stand = ((2, 0), (1, 0), (), (0, 0))
        self.refused((("turn", 0),), CIRCUIT, STEPS, stand)

    def test_a_restless_last_event(self):
        self.let_by((("go", 0), ("turn", 0)), BLINKING, ALONE, BLINKING_REST)
        self.let_by((("turn", 0), ("go", 0)), BLINKING, ALONE, BLINKING_REST)
        self.let_by((("go", 0),) * 3 + (("turn", 0),), BLINKING, ALONE, BLINKING_REST)

    def test_a_restless_event_ahead_of_the_last(self):
        self.refused((("go", 0), ("turn", 0), ("turn", 0)), BLINKING, ALONE, BLINKING_REST)
        self.refused((("go", 0), ("turn", 0), None), BLINKING, ALONE, BLINKING_REST)
        self.refused((("turn", 0), ("go", 0), ("go", 0)), BLINKING, ALONE, BLINKING_REST)

    def test_a_restless_event_behind_a_pair_that_is_no_right_row(self):
        stand = ((1,), (0,), (0,), (0,))
        self.assertIs(is_right(BLINKING, ALONE, (stand, 0)), False)
        self.let_by((), BLINKING, ALONE, stand)
        self.refused((("turn", 0),), BLINKING, ALONE, stand)

    def test_no_restless_event_at_all(self):
        self.refused((("go", 0),), BLINKING, ALONE, BLINKING_REST)
        self.refused((("turn", 0),), BLINKING, ALONE, BLINKING_REST)

    def test_what_is_no_run(self):
        for event in (
            ("go", 0), ("go", 1), ("go", 2), ("turn", 2), ("turn", -1), ("turn", True), ("turn", False), ["turn", 0],
            ("turn",), ("turn", 0, 0), "turn", ("Turn", 0), ("key", 0), None,
        ):
            self.refused((event,))
            self.refused((("turn", 1), event))
            self.refused((event, ("turn", 0)))
        self.refused(("turn", 0))

    def test_at_most_1200_events(self):
        turns = (("turn", 1),) * 1199
        self.let_by(turns + (("turn", 0),))
        self.refused(turns + (("turn", 1), ("turn", 0)))
        self.refused(turns + (("turn", 1),))
        goes = (("go", 0),) * 1197
        self.let_by(goes + (("go", 0), ("go", 0), ("turn", 0)), BLINKING, ALONE, BLINKING_REST)
        self.refused(goes + (("go", 0),) * 4 + (("turn", 0),), BLINKING, ALONE, BLINKING_REST)

    def test_a_circuit_that_goes_the_round_has_no_wrong_paper(self):
        for events in ((), (("turn", 0),), (("turn", 1), ("turn", 0)), (("turn", 0), ("turn", 1), ("go", 0))):
            self.refused(events, CIRCUIT, STEPS, REST)
        self.assertIs(wrong_by(CIRCUIT, STEPS, REST, ("goes", ROWS)), False)

    def test_other_words(self):
        right = (("turn", 0),)
        for word in ("goes", "Wrong", "wrong ", "", "apart", b"wrong", None, 0, False, ("wrong",), ["wrong"]):
            self.assertIs(wrong_by(BAD_CIRCUIT, BAD_STEPS, BAD_REST, (word, right)), False)

    def test_lists_longer_and_shorter_papers(self):
        right = (("turn", 0),)
        for paper in (
            ["wrong", right], ("wrong", list(right)), ("wrong", ["turn", 0]), ("wrong",), ("wrong", right, ()),
            right, (right,), (right, "wrong"), ("wrong",) + right, ("wrong", ("turn", 0)), (),
        ):
            self.assertIs(wrong_by(BAD_CIRCUIT, BAD_STEPS, BAD_REST, paper), False)

    def test_anything_is_no_paper(self):
        stand = ((2, 0), (1, 0), (), (0, 0))
        for thing in anything():
            self.assertIs(wrong_by(BAD_CIRCUIT, BAD_STEPS, BAD_REST, thing), False)
            self.assertIs(wrong_by(BAD_CIRCUIT, BAD_STEPS, BAD_REST, (thing, (("turn", 0),))), False)
            self.refused(thing)
            self.refused((thing,))
            self.refused((("turn", 0), thing))
            self.refused((thing, ("turn", 0)))
            # Where the first pair is no row, () alone is a paper.
            self.assertIs(wrong_by(CIRCUIT, STEPS, stand, ("wrong", thing)), thing == ())


class NeverBothTest(unittest.TestCase):
    def test_runs_of_circuits_that_go_and_that_do_not(self):
        for steps in small_rounds()[::4]:
            circuit = plain_circuit((1, 1), steps)
            rest = plain_rest((1, 1), steps)
            goes = rows_from(circuit, steps, rest) is not None
            found = any(wrong_by(circuit, steps, rest, ("wrong", events)) for events in short_runs(circuit, rest))
            self.assertIs(found, not goes, steps)


def short_runs(circuit, stand):
    """All runs of at most 7 events that turn no key back and don't turn one behind a go, and their beginnings."""
    runs = [()]
    for events in runs:
        if len(events) < 7:
            for event in events_of(circuit, run(circuit, stand, events)[-1]):
                back = event[0] == "turn" and (event in events or ("go", 0) in events or ("go", 1) in events)
                if not back:
                    runs.append(events + (event,))
    return runs


if __name__ == "__main__":
    unittest.main()

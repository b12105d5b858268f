"""Points 2 and 36: desks."""

import unittest

from pistonrounds.answering import is_settled
from pistonrounds.back import read_back
from pistonrounds.clashes import clashes
from pistonrounds.coded import coded_circuit, coded_rest
from pistonrounds.cuts import fewest_cut
from pistonrounds.desk import Desk
from pistonrounds.errors import NoAsk, NoEvent, NoRound, NoText, NoWork, TooGreat
from pistonrounds.events import after, can_go
from pistonrounds.groups import chain_cut, group_circuit, group_rest
from pistonrounds.needs import marks_needed
from pistonrounds.plain import plain_circuit, plain_rest
from pistonrounds.texts import show_round
from pistonrounds.walks import walk
from tests.some_rounds import some_rounds, steps_of
from tests.things import Refusals, Unchanged, anything, not_deep

ROUND = "round a+ a- b+ b-"
OF_ROUND = ("plain", "groups", "chain", "coded", "clashes", "cut", "needed")
OF_CIRCUIT = ("can", "places", "goes", "back")
# Rows that ask how a desk stands, and change nothing.
LOOKS = ("clashes", "cut", "needed", "can", "places", "goes", "back")


def desk_with(*rows):
    """A desk that has been told these rows, each of which it did."""
    desk = Desk()
    for row in rows:
        if desk.say(row) != "ok":
            raise AssertionError(row)
    return desk


def looked_at(desk):
    """How a desk stands: the answers to all looks, or which class was raised."""
    told = []
    for row in LOOKS:
        try:
            told.append(desk.say(row))
        except (NoWork, TooGreat) as error:
            told.append(type(error))
    return told


class DeedsTest(Refusals, unittest.TestCase):
    def test_a_round_alone(self):
        desk = Desk()
        self.assertEqual(desk.say("sections 1 2"), "ok")
        self.assertEqual(desk.say("round a+ a- b+ b-"), "ok")
        self.assertEqual(desk.say("clashes"), "4")
        self.assertEqual(desk.say("cut"), "1 3")
        self.assertEqual(desk.say("needed"), "1")
        self.assertEqual(desk.say("groups"), "ok")
        self.assertEqual(desk.say("goes"), "yes")
        self.assertEqual(desk.say("can"), "-")
        self.assertEqual(desk.say("back"), "-")
        self.assertEqual(desk.say("places"), "0 0")
        self.assertEqual(desk.say("key 0"), "ok")
        self.assertEqual(desk.say("key 1"), "ok")
        self.assertEqual(desk.say("can"), "a+")
        self.assertEqual(desk.say("back"), "a+ a- b+ b-")
        self.assertEqual(desk.say("go a"), "ok")
        self.assertEqual(desk.say("places"), "1 0")
        self.assertEqual(desk.say("back"), "-")
        self.assertEqual(desk.say("go a"), "ok")
        self.assertEqual(desk.say("can"), "a-")
        self.assertEqual(desk.say("back"), "a- b+ b- a+")
        self.assertEqual(desk.say("goes"), "no")
        self.assertEqual(desk.say("plain"), "ok")
        self.assertEqual(desk.say("places"), "0 0")
        self.assertEqual(desk.say("goes"), "no")

    def test_at_first_two_pistons_of_one_section(self):
        desk = desk_with("round a+ b+ a- b-", "plain", "key 0", "key 1", "go a", "go a")
        self.assertEqual(desk.say("places"), "2 0")
        self.assertEqual(desk.say("can"), "b+")
        self.assert_only(NoRound, Desk().say, "round a+ c+ a- c-")

    def test_sections(self):
        for row in ("sections 1", "sections 4", "sections 1 2 3 4", "sections 4 3 2 1 1 1"):
            words = row.split()[1:]
            desk = desk_with(row, "round a+ a-", "plain", "key 0", "key 1")
            self.assertEqual(desk.say("places"), " ".join("0" for _ in words))
            for _ in range(2 * int(words[0])):
                self.assertEqual(desk.say("can"), "a+")
                desk.say("go a")
            self.assertEqual(desk.say("can"), "a-")

    def test_each_kind_of_circuit(self):
        for sections, steps in some_rounds()[:12]:
            first = ["sections " + " ".join(str(s) for s in sections), "round " + show_round(steps)]
            fewest, chain = fewest_cut(steps), chain_cut(steps)
            for word, circuit, stand in (
                ("plain", plain_circuit(sections, steps), plain_rest(sections, steps)),
                ("groups", group_circuit(sections, steps, fewest), group_rest(sections, steps, fewest)),
                ("chain", group_circuit(sections, steps, chain), group_rest(sections, steps, chain)),
                ("coded", coded_circuit(sections, steps, fewest), coded_rest(sections, steps, fewest)),
            ):
                desk = desk_with(*first, word)
                self.assertEqual((desk.circuit, desk.stand), (circuit, stand))
                self.check_looks(desk, sections, steps, circuit, stand)
                for row, event in (("key 0", ("turn", 0)), ("key 1", ("turn", 1))):
                    self.assertEqual(desk.say(row), "ok")
                    stand = after(circuit, stand, event)
                    self.check_looks(desk, sections, steps, circuit, stand)
                for _ in range(5):
                    for p, side in can_go(circuit, stand)[-1:]:
                        self.assertEqual(desk.say("go " + "abcdef"[p]), "ok")
                        stand = after(circuit, stand, ("go", p))
                        self.check_looks(desk, sections, steps, circuit, stand)

    def check_looks(self, desk, sections, steps, circuit, stand):
        self.assertIs(is_settled(circuit, stand), True)
        self.assertEqual(desk.say("clashes"), str(len(clashes(sections, steps))))
        self.assertEqual(desk.say("cut"), " ".join(str(b) for b in fewest_cut(steps)))
        self.assertEqual(desk.say("needed"), str(marks_needed(sections, steps)))
        going = " ".join("abcdef"[p] + "-+"[side] for p, side in can_go(circuit, stand))
        self.assertEqual(desk.say("can"), going or "-")
        self.assertEqual(desk.say("places"), " ".join(str(place) for place in stand[0]))
        steps_back = read_back(circuit, stand)
        self.assertEqual(desk.say("back"), "-" if steps_back is None else show_round(steps_back))
        try:
            told = "yes" if walk(circuit, steps, stand)[0] == "goes" else "no"
        except TooGreat:
            self.assert_only(TooGreat, desk.say, "goes")
        else:
            self.assertEqual(desk.say("goes"), told)

    def test_several_can_go(self):
        desk = desk_with("sections 1 2 1", "round a+b+c+ a-c- b-", "chain", "key 0", "key 1")
        self.assertEqual(desk.say("can"), "a+ b+ c+")
        for row in ("go b", "go b", "go c", "go c"):
            desk.say(row)
        self.assertEqual(desk.say("can"), "a+ b+")
        for row in ("go b", "go b", "go a", "go a"):
            desk.say(row)
        self.assertEqual(desk.say("can"), "a- c-")
        self.assertEqual(desk.say("places"), "2 4 2")

    def test_key_and_go_settle_anew(self):
        desk = desk_with(ROUND, "groups", "key 0")
        self.assertEqual(desk.stand, group_rest((1, 1), steps_of("a+ a- b+ b-"), (1, 3))[:3] + ((1, 0),))
        desk.say("key 1")
        self.assertEqual(desk.stand, ((0, 0), (1, 0), (0, 1), (1, 1)))
        desk.say("key 1")
        self.assertEqual(desk.stand, ((0, 0), (1, 0), (0, 1), (1, 0)))
        desk.say("go a")
        desk.say("go a")
        # The memories have gone on to the next group, and this has sent piston 0 in.
        self.assertEqual(desk.stand, ((2, 0), (0, 0), (1, 0), (1, 0)))

    def test_goes_by_where_the_circuit_stands(self):
        desk = desk_with("round a+ b+ a- b-", "plain", "key 0", "key 1")
        self.assertEqual(desk.say("goes"), "yes")
        desk.say("go a")
        self.assertEqual(desk.say("goes"), "yes")
        # Step 1 is to come: then it doesn't go the round from step 0 on.
        desk.say("go a")
        self.assertEqual(desk.say("goes"), "no")
        for row in ("go b", "go b", "go a", "go a", "go b", "go b"):
            desk.say(row)
        self.assertEqual(desk.say("goes"), "yes")

    def test_a_circuit_made_anew_is_at_its_rest(self):
        desk = desk_with("round a+ b+ a- b-", "plain", "key 0", "key 1", "go a")
        self.assertEqual(desk.say("places"), "1 0")
        desk.say("plain")
        self.assertEqual((desk.say("places"), desk.say("can")), ("0 0", "-"))


class NoAskTest(Refusals, unittest.TestCase):
    def refused(self, row):
        for desk in (Desk(), desk_with(ROUND), desk_with(ROUND, "groups", "key 0")):
            self.assert_only(NoAsk, desk.say, row)

    def test_what_is_no_text(self):
        for thing in anything():
            self.refused(thing)
        for thing in (["plain"], ("plain",), b"plain", ("round", "a+ a-"), {"plain": 1}, 1, None):
            self.refused(thing)

    def test_first_words_that_are_none(self):
        for row in (
            "", " ", "  ", " plain", "Plain", "plains", "plain\n", "\nplain", "clash", "circuit", "sections1 1",
            "keys 0",
            "turn 0", "group", "coded\t", "a+ a-", "help", "go\n", "key\n0", "-", "ok", "say plain", "quit", "stand",
        ):
            self.refused(row)

    def test_numbers_of_words_that_are_none(self):
        for word in OF_ROUND + OF_CIRCUIT:
            for behind in (" ", "  ", " 0", " a", " x y", " " + word):
                self.refused(word + behind)
        for row in (
            "sections", "sections 1 1 1 1 1 1 1", "sections 1 1 1 1 1 1 ", "round", "key", "key 0 1", "key 0 ",
            "key  0",
            "go", "go a b", "go a ", "go  a",
        ):
            self.refused(row)

    def test_ahead_of_no_text(self):
        for row in ("sections 9 9 9 9 9 9 9", "key 2 2", "go x x", "plain x", "key x ", "goes  "):
            self.refused(row)


class NoTextTest(Refusals, unittest.TestCase):
    def refused(self, row):
        # Whether there is a round, a circuit or none.
        for desk in (Desk(), desk_with(ROUND), desk_with(ROUND, "groups", "key 0")):
            self.assert_only(NoText, desk.say, row)

    def test_sections(self):
        for word in ("", "0", "5", "9", "11", "01", "-1", "+1", "a", "1\n", "\n", "1.", "one", "(1)"):
            self.refused("sections " + word)
            self.refused("sections 1 " + word)
            self.refused("sections " + word + " 2")
        self.refused("sections 1  2")
        self.refused("sections  1")
        self.refused("sections 1 ")

    def test_rounds(self):
        for words in (
            "", " ", "a", "a+ a", "a+  a-", "a+ a- ", " a+ a-", "g+ g-", "a+\na-", "a+ a-\n", "1+ 1-", "A+ A-",
            "a+, a-",
            "+a -a", "a+ b", "x",
        ):
            self.refused("round " + words)

    def test_keys(self):
        for word in ("", "2", "3", "-1", "00", "01", "10", "a", "0\n", "k0", "+0"):
            self.refused("key " + word)

    def test_pistons(self):
        for word in ("", "g", "A", "0", "ab", "a+", "aa", "a\n", "-", "z", "abc", "abcdef", "bc"):
            self.refused("go " + word)


class NoWorkTest(Refusals, unittest.TestCase):
    def test_no_round(self):
        for desk in (Desk(), desk_with("sections 1 2"), desk_with(ROUND, "groups", "sections 1 1")):
            for word in OF_ROUND + OF_CIRCUIT:
                self.assert_only(NoWork, desk.say, word)

    def test_no_circuit(self):
        for desk in (
            Desk(), desk_with(ROUND), desk_with(ROUND, "groups", ROUND), desk_with(ROUND, "plain", "sections 1"),
        ):
            for word in OF_CIRCUIT + ("key 0", "key 1", "go a", "go f"):
                self.assert_only(NoWork, desk.say, word)

    def test_ahead_of_what_the_deed_raises(self):
        self.assert_only(NoWork, Desk().say, "go f")
        self.assert_only(NoEvent, desk_with(ROUND, "plain").say, "go f")


class RaisedTest(Refusals, unittest.TestCase):
    def test_no_round(self):
        desk = desk_with("sections 1 1 2")
        for words in ("a+", "a+ a+", "b+a+ a-b-", "a+ b+ a-", "a+ d+ a- d-", "a+a- a+", "a+ a- " * 6 + "a+ a-"):
            self.assert_only(NoRound, desk.say, "round " + words)

    def test_no_event(self):
        desk = desk_with(ROUND, "groups")
        for letter in "abcdef":
            self.assert_at(NoEvent, 0, desk.say, "go " + letter)
        desk.say("key 0")
        desk.say("key 1")
        for letter in "bcdef":
            self.assert_at(NoEvent, 0, desk.say, "go " + letter)
        self.assertEqual(desk.say("go a"), "ok")

    def test_too_great(self):
        desk = desk_with("sections 4 4 4", "round a+b+c+ a-b-c-", "plain")
        self.assert_only(TooGreat, desk.say, "goes")
        self.assertEqual(desk.say("back"), "-")


class StateTest(Refusals, unittest.TestCase):
    def test_a_refused_row_changes_nothing(self):
        for rows in (
            (), ("sections 2 1",), (ROUND,), ("sections 2 1", ROUND, "plain"), (ROUND, "groups", "key 0", "key 1",
            "go a"),
            (ROUND, "coded", "key 0", "key 1", "go a", "go a"),
        ):
            desk = desk_with(*rows)
            ahead = looked_at(desk)
            for row, kind in (
                (None, NoAsk), ("", NoAsk), ("sections", NoAsk), ("plain x", NoAsk), ("sections 1 5", NoText),
                ("sections 3 3 ", NoText), ("round a+ a", NoText), ("round b+ b- ", NoText), ("key 2", NoText),
                ("go x", NoText), ("round a+", NoRound), ("round c+ c-", NoRound), ("round b+ b- b+", NoRound),
            ):
                self.assert_only(kind, desk.say, row)
                self.assertEqual(looked_at(desk), ahead, (rows, row))
            with self.assertRaises((NoWork, NoEvent)):
                desk.say("go f")
            self.assertEqual(looked_at(desk), ahead)

    def test_sections_that_are_refused_leave_the_sections(self):
        desk = desk_with("sections 2")
        self.assert_only(NoText, desk.say, "sections 3 5")
        desk_rows = ("round a+ a-", "plain", "key 0", "key 1", "go a", "go a")
        for row in desk_rows:
            desk.say(row)
        self.assertEqual((desk.say("places"), desk.say("can")), ("2", "a+"))

    def test_looks_change_nothing(self):
        desk = desk_with(ROUND, "coded", "key 0", "key 1", "go a")
        self.assertEqual(looked_at(desk), looked_at(desk))

    def test_sections_take_away_round_and_circuit(self):
        desk = desk_with(ROUND, "groups", "sections 1 1")
        self.assertEqual(looked_at(desk), [NoWork] * 7)

    def test_a_round_takes_away_the_circuit(self):
        desk = desk_with(ROUND, "groups", "round a+ b+ a- b-")
        self.assertEqual(looked_at(desk), ["0", "0 2", "0"] + [NoWork] * 4)
        # The same round once more does so, too.
        desk = desk_with(ROUND, "groups", ROUND)
        self.assertEqual(looked_at(desk), ["4", "1 3", "1"] + [NoWork] * 4)

    def test_a_round_keeps_the_sections(self):
        desk = desk_with("sections 1 3", ROUND, "round b+ b-", "plain", "key 0", "key 1", *["go b"] * 2)
        self.assertEqual((desk.say("places"), desk.say("can")), ("0 2", "b+"))

    def test_two_desks_do_not_disturb_one_another(self):
        one, other = Desk(), Desk()
        one.say("sections 2")
        one.say("round a+ a-")
        self.assert_only(NoWork, other.say, "cut")
        other.say("round b+ b-")
        one.say("plain")
        self.assert_only(NoWork, other.say, "can")
        other.say("coded")
        for desk in (one, other):
            desk.say("key 0")
        one.say("key 1")
        self.assertEqual((one.say("can"), other.say("can")), ("a+", "-"))
        one.say("go a")
        self.assertEqual((one.say("places"), other.say("places")), ("1", "0 0"))
        self.assertEqual(looked_at(Desk()), [NoWork] * 7)

    def test_rows_are_left_alone(self):
        things = not_deep()
        kept = Unchanged(things)
        for thing in things:
            self.assert_only(NoAsk, Desk().say, thing)
        self.assertTrue(kept.holds())


class ClassTest(unittest.TestCase):
    def test_say_is_defined_in_the_class_itself(self):
        self.assertIn("say", vars(Desk))


if __name__ == "__main__":
    unittest.main()

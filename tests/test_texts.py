"""Points 2, 34 and 35: rounds and circuits as texts."""

import unittest

from pistonrounds.circuits import made_circuit
from pistonrounds.coded import coded_circuit
from pistonrounds.cuts import fewest_cut
from pistonrounds.errors import NoCircuit, NoRound, NoText
from pistonrounds.faults import faults_of, hurt
from pistonrounds.groups import chain_cut, group_circuit
from pistonrounds.plain import plain_circuit
from pistonrounds.texts import read_circuit, read_round, show_circuit, show_round
from tests.some_rounds import some_rounds
from tests.things import OFF, ON, SMALL, Refusals, circuit_of_size, nots, plain

SMALL_ROWS = (
    "sections 1 2",
    "a+ (and b0 k0 (not m0))",
    "a- b2",
    "b+ (or m1 k1)",
    "b- (not (or a1 m0))",
    "m0+ a1",
    "m0- (or)",
    "m1+ m0",
    "m1- (and (not (not b1)) (and))",
    "keys 2",
)
SMALL_TEXT = "\n".join(SMALL_ROWS)
# Numbers that don't read as such.
NO_NUMBERS = (
    "", "00", "01", "09", "000", "100", "123", "-1", "+1", "1.", "x", "1x", "x1", "1_0", "0x1", "()", "(1)", "a1",
)


def with_row(at, row):
    """The text of the small circuit with another row."""
    return "\n".join(SMALL_ROWS[:at] + (row,) + SMALL_ROWS[at + 1:])


def with_line(text):
    """The text of a circuit with one piston whose out line is written so."""
    return "sections 1\na+ " + text + "\na- a0\nkeys 1"


class RoundTest(Refusals, unittest.TestCase):
    def test_shown(self):
        self.assertEqual(show_round((((0, 1),), ((1, 1),), ((0, 0), (2, 1)), ((1, 0), (2, 0)))), "a+ b+ a-c+ b-c-")
        self.assertEqual(show_round((((3, 0), (4, 1), (5, 0)), ((3, 1), (4, 0), (5, 1)))), "d-e+f- d+e-f+")

    def test_read(self):
        steps = (((0, 1),), ((1, 1),), ((0, 0), (2, 1)), ((1, 0), (2, 0)))
        self.assertEqual(read_round((1, 2, 3), "a+ b+ a-c+ b-c-"), steps)
        steps = (((3, 0), (4, 1), (5, 0)), ((3, 1), (4, 0), (5, 1)))
        self.assertEqual(read_round((1,) * 6, "d-e+f- d+e-f+"), steps)

    def test_one_behind_the_other(self):
        for sections, steps in some_rounds():
            self.assertEqual(read_round(sections, show_round(steps)), steps)
            self.assertEqual(show_round(read_round(sections, show_round(steps))), show_round(steps))

    def test_read_but_no_round(self):
        for text in (
            "b+a+ a-b-", "a+b+ b-a-", "a+a- a+ a-", "a+a+ a-", "a+ a+", "a+", "a+ b+", "a+ a- a+", "a+ b+ a- c+",
            "c+ c-", "f+ f-", "a+ a- " * 6 + "a+ a-", "a+" * 1000, "a+ a- " * 900 + "b+",
        ):
            self.assert_only(NoRound, read_round, (1, 1), text)
        self.assertEqual(read_round((1,), ("a+ a- " * 6)[:-1]), (((0, 1),), ((0, 0),)) * 6)

    def test_no_text(self):
        for text in (
            "", " ", "  ", "a+ a- ", " a+ a-", "a+  a-", "a+ a-\n", "a+\na-", "\na+ a-", "a+\ta-", "a+ a", "a a-", "a",
            "+", "-", "a++", "a+-", "+a -a", "+a", "g+ g-", "A+ A-", "a+ m-", "k+ k-", "1+ 1-", "0+ 0-", "a* a-",
            "a1 a0",
            "a+,a-", "a+;a-", "a+ a- .", "a+b a-b-", "ab+ ab-", "a+ a-b", "(a+ a-)", "a+ a- ~", "a+ a=", "a +", "a+ -a",
            "a+  ", "round a+ a-", "a- a+ -",
        ):
            self.assert_only(NoText, read_round, (1, 1), text)

    def test_each_letter_and_sign_alone(self):
        for code in range(32, 127):
            sign = chr(code)
            if sign not in "ab":
                kind = NoRound if sign in "cdef" else NoText
                self.assert_only(kind, read_round, (1, 1), sign + "+ " + sign + "-")
            if sign not in "+":
                kind = NoRound if sign == "-" else NoText
                self.assert_only(kind, read_round, (1, 1), "a" + sign + " a-")

    def test_no_text_ahead_of_no_round(self):
        for text in ("b+a+ a-b-", "a+ a+", "c+ c-", "a+", "a+ a- a+"):
            self.assert_only(NoRound, read_round, (1, 1), text)
            for bad in (text + " ", text + " g+", text + " a", " " + text, text + "+", text + "\n"):
                self.assert_only(NoText, read_round, (1, 1), bad)

    def test_answers_are_equal(self):
        self.assertEqual(read_round((1, 1), "a+ a-"), read_round((1, 1), "a+ a-"))


class CircuitTest(Refusals, unittest.TestCase):
    def test_shown(self):
        self.assertEqual(show_circuit(SMALL), SMALL_TEXT)

    def test_read(self):
        self.assertEqual(read_circuit(SMALL_TEXT), SMALL)

    def test_small_ones(self):
        for text, circuit in (
            ("sections 1\na+ (or)\na- (or)\nkeys 0", plain()),
            ("sections 4\na+ (or)\na- (or)\nm0+ (or)\nm0- (or)\nkeys 3", plain(1, 1, 3, 4)),
            (with_line("a1"), ((1,), ((("cam", 0, 1), ("cam", 0, 0)),), (), 1)),
            (with_line("k0"), ((1,), ((("key", 0), ("cam", 0, 0)),), (), 1)),
            (with_line("(and)"), ((1,), ((ON, ("cam", 0, 0)),), (), 1)),
            (with_line("(or)"), ((1,), ((OFF, ("cam", 0, 0)),), (), 1)),
            (with_line("(not a0)"), ((1,), ((("not", ("cam", 0, 0)), ("cam", 0, 0)),), (), 1)),
            (with_line("(not (not (and (or))))"), ((1,), ((nots(3, ("and", (OFF,))), ("cam", 0, 0)),), (), 1)),
            (
                with_line("(or (and a0 (not k0)) (or) a1 (and (and) (and)))"),
                ((1,), ((
                    ("or", (("and", (("cam", 0, 0), ("not", ("key", 0)))), OFF, ("cam", 0, 1), ("and", (ON, ON)))),
                    ("cam", 0, 0),
                ),), (), 1),
            ),
        ):
            self.assertEqual(show_circuit(made_circuit(circuit)), text)
            self.assertEqual(read_circuit(text), circuit)

    def test_numbers_of_two_figures(self):
        memories = tuple((("mark", 11 - m), ("mark", m)) for m in range(12))
        circuit = made_circuit(((1, 1), ((("mark", 10), ("mark", 11)), (OFF, OFF)), memories, 0))
        text = show_circuit(circuit)
        self.assertIn("\na+ m10\na- m11\nb+ (or)\nb- (or)\nm0+ m11\nm0- m0\n", text)
        self.assertIn("\nm10+ m1\nm10- m10\nm11+ m0\nm11- m11\nkeys 0", text)
        self.assertEqual(read_circuit(text), circuit)

    def test_all_letters(self):
        pilots = tuple((("cam", p, 1), ("cam", p, 0)) for p in range(6))
        circuit = made_circuit(((1, 2, 3, 4, 1, 2), pilots, (), 0))
        self.assertEqual(show_circuit(circuit), (
            "sections 1 2 3 4 1 2\na+ a1\na- a0\nb+ b1\nb- b0\nc+ c1\nc- c0\nd+ d1\nd- d0\ne+ e1\ne- e0\nf+ f1\nf- f0\n"
            "keys 0"
        ))
        self.assertEqual(read_circuit(show_circuit(circuit)), circuit)

    def test_one_behind_the_other(self):
        circuits = [SMALL, circuit_of_size(2000)] + [hurt(SMALL, fault) for fault in faults_of(SMALL)]
        for sections, steps in some_rounds():
            circuits.append(plain_circuit(sections, steps))
            for cut in (fewest_cut(steps), chain_cut(steps)):
                circuits.append(group_circuit(sections, steps, cut))
                circuits.append(coded_circuit(sections, steps, cut))
        for circuit in circuits:
            text = show_circuit(circuit)
            self.assertEqual(read_circuit(text), circuit)
            self.assertEqual(show_circuit(read_circuit(text)), text)

    def test_answers_are_equal(self):
        self.assertEqual(read_circuit(SMALL_TEXT), read_circuit(SMALL_TEXT))
        self.assertEqual(show_circuit(SMALL), show_circuit(SMALL))


class NoTextTest(Refusals, unittest.TestCase):
    def no_text(self, text):
        self.assert_only(NoText, read_circuit, text)

    def test_other_texts(self):
        for text in ("", "\n", " ", "sections", "sections 1", "keys 0", "sections 1\nkeys 0", "sections 1 2\n\nkeys 2"):
            self.no_text(text)

    def test_numbers_that_are_none(self):
        for number in NO_NUMBERS:
            self.no_text(with_row(0, "sections 1 " + number))
            self.no_text(with_row(0, "sections " + number + " 2"))
            self.no_text(with_row(9, "keys " + number))
            for letter in "abcdefmk":
                self.no_text(with_row(2, "a- " + letter + number))
                self.no_text(with_row(2, "a- (not " + letter + number + ")"))

    def test_memories_numbered_otherwise(self):
        for name in ("m", "m00", "m2", "m10", "m-1", "n0", "M0", "0", "a0", "m0 "):
            self.no_text(with_row(5, name + "+ a1"))
            self.no_text(with_row(6, name + "- (or)"))
        self.no_text("sections 1\na+ (or)\na- (or)\nm1+ (or)\nm1- (or)\nkeys 0")
        self.no_text("sections 1\na+ (or)\na- (or)\nm0+ (or)\nm0- (or)\nm2+ (or)\nm2- (or)\nkeys 0")

    def test_letters_that_are_not_one_behind_another(self):
        for rows in (("b", "a"), ("a", "c"), ("b", "c"), ("a", "a"), ("A", "B"), ("a", "m0"), ("c", "d")):
            text = "sections 1 1"
            for name in rows:
                text += "\n" + name + "+ (or)\n" + name + "- (or)"
            self.no_text(text + "\nkeys 0")

    def test_rows_missing(self):
        for at in range(len(SMALL_ROWS)):
            self.no_text("\n".join(SMALL_ROWS[:at] + SMALL_ROWS[at + 1:]))
            self.no_text("\n".join(SMALL_ROWS[:at]))
        for at in range(1, len(SMALL_ROWS) - 1):
            if at != 7:
                # Without both rows of the last memory it would be another circuit's text.
                self.no_text("\n".join(SMALL_ROWS[:at] + SMALL_ROWS[at + 2:]))

    def test_rows_more(self):
        for at in range(len(SMALL_ROWS) + 1):
            for row in ("", " ", "a+ a1", "m2+ a1", "keys 2", "sections 1 2"):
                self.no_text("\n".join(SMALL_ROWS[:at] + (row,) + SMALL_ROWS[at:]))
        self.no_text("\n" + SMALL_TEXT)
        self.no_text(SMALL_TEXT + "\n")
        self.no_text(SMALL_TEXT + "\n\n")
        self.no_text(SMALL_TEXT + "\n" + SMALL_TEXT)

    def test_rows_exchanged(self):
        for at in range(len(SMALL_ROWS) - 1):
            rows = list(SMALL_ROWS)
            rows[at], rows[at + 1] = rows[at + 1], rows[at]
            self.no_text("\n".join(rows))
        # Memories ahead of pistons.
        self.no_text("\n".join(SMALL_ROWS[:1] + SMALL_ROWS[5:9] + SMALL_ROWS[1:5] + SMALL_ROWS[9:]))

    def test_as_many_letters_as_sections(self):
        for row in (
            "sections", "sections 1", "sections 1 2 1", "sections 1 2 1 1", "section 1 2", "Sections 1 2", "1 2",
        ):
            self.no_text(with_row(0, row))
        rows = "".join("\n" + letter + sign + " (or)" for letter in "abcdefg" for sign in "+-")
        self.no_text("sections 1 1 1 1 1 1 1" + rows + "\nkeys 0")
        self.no_text("sections\nkeys 0")

    def test_heads(self):
        for row in (
            "a+", "a+ ", "a+a1", "a +a1", "a  a1", "a+  a1", " a+ a1", "a- a1", "b+ a1", "+a a1", "a a1", "", "a",
        ):
            self.no_text(with_row(1, row))
        for row in ("m0 a1", "m0", "m0+", "m0+ ", "m0+a1", "m0- a1", "m1+ a1", "m+ a1", "0+ a1"):
            self.no_text(with_row(5, row))
        for row in ("keys", "keys ", "keys 1 1", "keys  1", " keys 1", "keys 1 ", "key 1", "Keys 1", "1", "keys k1"):
            self.no_text(with_row(9, row))

    def test_brackets_that_do_not_close(self):
        for text in (
            "(and", "(and a1", "(and (or)", "(not a1", "a1)", "(and a1))", "(and))", "(and (not a1)", "(not (not a1)",
            ")", "(", "()", "((and))", "(and a1x", "(not a1,", "(and (a1))", "(a1)", "((a1", "(not)", "(not a1 a0)",
            "(not a1)a0",
            "(and a1)(or)",
            "(and a1(or))", "(and)a1", ")(", "(and a1) )", "(not (and) (or))", "and", "and a1", "or)", "not a1",
        ):
            self.no_text(with_line(text))
            self.no_text(with_line("(and a1 " + text + ")"))

    def test_blanks_too_many_or_too_few(self):
        for text in (
            "", " a1", "a1 ", " ", "(and  a1)", "(and a1 )", "( and a1)", "(and a1  a0)", "(and )", "(or )",
            "(not  a1)",
            "(not a1 )", " (and)", "(and) ", "(and a1 (or) )", "(anda1)", "(nota1)", "(and a1a0)", "a1a0", "a 1",
            "(and\ta1)",
        ):
            self.no_text(with_line(text))
        for row in ("sections  1 2", "sections 1  2", "sections 1 2 ", " sections 1 2", "sections1 2", "sections 12 "):
            self.no_text(with_row(0, row))

    def test_several_lines_in_a_row(self):
        for text in ("a1 a0", "a1 (and)", "(and) a1", "(and) (or)", "a1 a1 a1", "a1 (and", "(or) (and a1", "a0 a1)"):
            self.no_text(with_line(text))

    def test_other_letters_and_words(self):
        for text in (
            "g1", "A1", "l0", "n0", "1", "a", "m", "k", "+1", "a+", "(nor a1)", "(AND a1)", "(xor)", "(cam)", "cam",
        ):
            self.no_text(with_line(text))
        for code in range(32, 127):
            letter = chr(code)
            if letter not in "abcdefmk":
                self.no_text(with_line(letter + "1"))


class NoCircuitTest(Refusals, unittest.TestCase):
    def no_circuit(self, text):
        self.assert_only(NoCircuit, read_circuit, text)
        # If something doesn't read as well, this comes first.
        for bad in (text + "\n", text + " ", text.replace("keys ", "keys 0"), text.replace("sections", "section")):
            self.assert_only(NoText, read_circuit, bad)

    def test_lines_deeper_than_6(self):
        for depth in (5, 6, 7, 20, 29, 30, 31, 40):
            text = with_line("(not " * (depth - 1) + "a1" + ")" * (depth - 1))
            if depth <= 6:
                self.assertEqual(read_circuit(text), ((1,), ((nots(depth, ("cam", 0, 1)), ("cam", 0, 0)),), (), 1))
            else:
                self.no_circuit(text)
        self.no_circuit(with_line("(and " * 6 + "(or)" + ")" * 6))
        self.no_circuit(with_line("(or a1 (and k0 " * 3 + "(and)" + "))" * 3))

    def test_more_than_12_parts(self):
        self.assertEqual(len(read_circuit(with_line("(and" + " a1" * 12 + ")"))[1][0][0][1]), 12)
        for word in ("and", "or"):
            self.no_circuit(with_line("(" + word + " a1" * 13 + ")"))
            self.no_circuit(with_line("(" + word + " (not a1)" * 500 + ")"))

    def test_cams_marks_and_keys_that_are_not_there(self):
        for text in ("a2", "a9", "a10", "a99", "b0", "b1", "f0", "f99", "m0", "m1", "m12", "m99", "k1", "k2", "k99"):
            self.no_circuit(with_line(text))
            self.no_circuit(with_line("(and a1 (not " + text + "))"))

    def test_numbers_that_are_too_great_or_too_small(self):
        for number in ("0", "5", "9", "10", "99"):
            self.no_circuit("sections " + number + "\na+ (or)\na- (or)\nkeys 0")
        for number in ("4", "9", "10", "99"):
            self.assert_only(NoCircuit, read_circuit, "sections 1\na+ (or)\na- (or)\nkeys " + number)

    def test_more_than_12_memories(self):
        for many in (12, 13, 20, 100):
            rows = "".join(f"m{m}+ k0\nm{m}- k0\n" for m in range(many))
            text = "sections 1\na+ a1\na- a0\n" + rows + "keys 1"
            if many == 12:
                self.assertEqual(len(read_circuit(text)[2]), 12)
            else:
                self.no_circuit(text)
        # The next one would have a number of three figures.
        rows = "".join(f"m{m}+ k0\nm{m}- k0\n" for m in range(101))
        self.assert_only(NoText, read_circuit, "sections 1\na+ a1\na- a0\n" + rows + "keys 1")

    def test_more_than_2000_lines(self):
        many = "(and" + (" (or" + " a1" * 12 + ")") * 12 + ")"
        rows = "".join(f"m{m}+ {many}\nm{m}- {many}\n" for m in range(7))
        self.no_circuit("sections 1\na+ a1\na- a0\n" + rows + "keys 1")


if __name__ == "__main__":
    unittest.main()

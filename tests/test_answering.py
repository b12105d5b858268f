"""Points 10 and 12: answers, up to a settled stand."""

import unittest

from pistonrounds.answering import answer, answers, is_settled, settled
from pistonrounds.circuits import made_circuit
from pistonrounds.errors import Restless
from pistonrounds.stands import made_stand
from tests.things import OFF, ON, Refusals, Unchanged, blinker, counter, follow, marks_of

PAIRS = {"both": (ON, ON), "first": (ON, OFF), "second": (OFF, ON), "none": (OFF, OFF)}
BEHIND = {"both": (0, 1), "first": (1, 1), "second": (0, 0), "none": (0, 1)}

# While mark 6 is 0 this counts on: 64 answers from 0 lead to the stand with mark 6 alone.
TO_64 = made_circuit(((1,), ((OFF, OFF),), counter(7, ("not", ("mark", 6))), 0))
# One memory more, which takes over mark 6: one answer more.
TO_65 = made_circuit(((1,), ((OFF, OFF),), counter(7, ("not", ("mark", 6))) + (follow(("mark", 6)),), 0))


def counting(number, bits):
    return ((0,), (0,), marks_of(number, bits), ())


class AnswerTest(unittest.TestCase):
    def test_valves(self):
        for told, pair in PAIRS.items():
            for valve in (0, 1):
                stand = ((1, 0), (valve, 1 - valve), (), ())
                circuit = made_circuit(((1, 2), (pair, PAIRS["none"]), (), 0))
                self.assertEqual(answer(circuit, stand), ((1, 0), (BEHIND[told][valve], 1 - valve), (), ()))
                circuit = made_circuit(((1, 2), (PAIRS["none"], pair), (), 0))
                self.assertEqual(answer(circuit, stand), ((1, 0), (valve, BEHIND[told][1 - valve]), (), ()))

    def test_memories(self):
        for told, pair in PAIRS.items():
            for mark in (0, 1):
                stand = ((1,), (mark,), (1 - mark, mark, mark), ())
                circuit = made_circuit(((1,), (PAIRS["none"],), (PAIRS["none"], pair, PAIRS["none"]), 0))
                self.assertEqual(answer(circuit, stand), ((1,), (mark,), (1 - mark, BEHIND[told][mark], mark), ()))

    def test_places_and_keys_stay(self):
        circuit = made_circuit(((1, 4), (PAIRS["first"], PAIRS["second"]), (PAIRS["first"],), 3))
        stand = made_stand(circuit, ((1, 5), (0, 1), (0,), (1, 0, 1)))
        self.assertEqual(answer(circuit, stand), ((1, 5), (1, 0), (1,), (1, 0, 1)))

    def test_all_lines_are_looked_at_in_the_stand_as_it_was(self):
        ring = tuple(follow(("mark", m - 1 if m else 11)) for m in range(12))
        circuit = made_circuit(((1,), ((("mark", 0), ("mark", 1)),), ring, 0))
        stand = ((0,), (0,), (1,) + (0,) * 11, ())
        seen = []
        for _ in range(13):
            seen.append(stand[2].index(1))
            self.assertEqual(sum(stand[2]), 1)
            stand = answer(circuit, stand)
        self.assertEqual(seen, list(range(12)) + [0])

    def test_valves_and_memories_go_by_the_stand_as_it_was(self):
        circuit = made_circuit(((1,), (follow(("mark", 0)),), (follow(("key", 0)),), 1))
        first = ((0,), (0,), (0,), (1,))
        second = ((0,), (0,), (1,), (1,))
        third = ((0,), (1,), (1,), (1,))
        self.assertEqual(answer(circuit, first), second)
        self.assertEqual(answer(circuit, second), third)
        self.assertEqual(answers(circuit, first), (first, second, third))

    def test_the_answer_is_a_stand_of_ints(self):
        circuit = made_circuit(((1, 4), (PAIRS["first"], PAIRS["second"]), (PAIRS["first"],), 3))
        told = answer(circuit, ((1, 5), (0, 1), (0,), (1, 0, 1)))
        self.assertIs(made_stand(circuit, told), told)


class SettledTest(Refusals, unittest.TestCase):
    def test_is_settled(self):
        for told, pair in PAIRS.items():
            for side in (0, 1):
                stays = BEHIND[told][side] == side
                circuit = made_circuit(((1,), (pair,), (), 0))
                self.assertIs(is_settled(circuit, ((1,), (side,), (), ())), stays)
                circuit = made_circuit(((1,), (PAIRS["none"],), (pair,), 0))
                self.assertIs(is_settled(circuit, ((1,), (0,), (side,), ())), stays)

    def test_a_settled_stand_is_its_only_one(self):
        circuit = made_circuit(((1,), (PAIRS["first"],), (PAIRS["both"],), 1))
        stand = ((0,), (1,), (0,), (1,))
        self.assertEqual(answers(circuit, stand), (stand,))
        self.assertEqual(settled(circuit, stand), stand)

    def test_answers_go_up_to_the_first_settled_one(self):
        chain = tuple(follow(("mark", m - 1) if m else ("key", 0)) for m in range(12))
        circuit = made_circuit(((1,), (follow(("mark", 11)),), chain, 1))
        stand = ((0,), (0,), (0,) * 12, (1,))
        told = answers(circuit, stand)
        self.assertEqual(len(told), 14)
        for at in range(13):
            self.assertEqual(told[at], ((0,), (0,), (1,) * at + (0,) * (12 - at), (1,)))
            self.assertIs(is_settled(circuit, told[at]), False)
        self.assertEqual(told[13], ((0,), (1,), (1,) * 12, (1,)))
        self.assertIs(is_settled(circuit, told[13]), True)
        self.assertEqual(settled(circuit, stand), told[13])
        self.assertIs(type(told), tuple)

    def test_just_65_stands(self):
        stand = made_stand(TO_64, counting(0, 7))
        told = answers(TO_64, stand)
        self.assertEqual(told, tuple(counting(number, 7) for number in range(65)))
        self.assertEqual(settled(TO_64, stand), counting(64, 7))

    def test_what_would_be_66(self):
        stand = made_stand(TO_65, counting(0, 8))
        self.assert_at(Restless, 0, answers, TO_65, stand)
        self.assert_at(Restless, 0, settled, TO_65, stand)
        told = answers(TO_65, counting(1, 8))
        self.assertEqual(told, tuple(counting(number, 8) for number in range(1, 65)) + (counting(64 + 128, 8),))
        self.assertEqual(len(told), 65)
        self.assertEqual(settled(TO_65, counting(1, 8)), counting(64 + 128, 8))

    def test_memories_that_turn_for_ever(self):
        circuit = made_circuit(((1,), (PAIRS["none"],), (blinker(ON),), 0))
        for mark in (0, 1):
            stand = ((0,), (0,), (mark,), ())
            self.assertIs(is_settled(circuit, stand), False)
            self.assertEqual(answer(circuit, stand), ((0,), (0,), (1 - mark,), ()))
            self.assert_at(Restless, 0, answers, circuit, stand)
            self.assert_at(Restless, 0, settled, circuit, stand)

    def test_a_ring_turns_for_ever_unless_all_are_alike(self):
        circuit = made_circuit(((1,), (PAIRS["none"],), (follow(("mark", 1)), follow(("mark", 0))), 0))
        self.assert_at(Restless, 0, settled, circuit, ((0,), (0,), (1, 0), ()))
        for mark in (0, 1):
            stand = ((0,), (0,), (mark, mark), ())
            self.assertEqual(settled(circuit, stand), stand)

    def test_arguments_are_left_alone_and_answers_are_equal(self):
        things = [TO_64, counting(3, 7)]
        kept = Unchanged(things)
        for call in (answer, is_settled, answers, settled):
            self.assertEqual(call(*things), call(*things))
        self.assertTrue(kept.holds())


if __name__ == "__main__":
    unittest.main()

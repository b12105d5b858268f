"""Points 2 and 37: codes."""

import unittest

from pistonrounds.codes import code_marks, code_of, code_places

# How many places and marks there are, for 2 to 12 groups.
PLACES = {2: 2, 3: 4, 4: 4, 5: 6, 6: 6, 7: 8, 8: 8, 9: 10, 10: 10, 11: 12, 12: 12}
MARKS = {2: 1, 3: 2, 4: 2, 5: 3, 6: 3, 7: 3, 8: 3, 9: 4, 10: 4, 11: 4, 12: 4}
# Marks by places, mark 0 first; an odd number of groups has the code of one group more.
CODES = {
    2: "0 1",
    4: "00 10 11 01",
    6: "000 100 110 111 101 001",
    8: "000 100 110 010 011 111 101 001",
    10: "0000 1000 1100 0100 0110 0111 0101 1101 1001 0001",
    12: "0000 1000 1100 0100 0110 1110 1111 0111 0101 1101 1001 0001",
}


class CodesTest(unittest.TestCase):
    def test_places_and_marks(self):
        for groups in range(2, 13):
            self.assertEqual(code_places(groups), PLACES[groups])
            self.assertEqual(code_marks(groups), MARKS[groups])
            self.assertIs(type(code_places(groups)), int)
            self.assertIs(type(code_marks(groups)), int)

    def test_all_codes(self):
        for groups in range(2, 13):
            words = CODES[PLACES[groups]].split()
            self.assertEqual(len(words), PLACES[groups])
            for place, word in enumerate(words):
                self.assertEqual(code_of(groups, place), tuple(int(figure) for figure in word), (groups, place))
                self.assertIs(type(code_of(groups, place)[-1]), int)

    def test_just_one_mark_changes_from_each_place_to_the_next(self):
        for groups in range(2, 13):
            codes = [code_of(groups, place) for place in range(PLACES[groups])]
            for code, following in zip(codes, codes[1:] + codes[:1]):
                changed = [j for j in range(MARKS[groups]) if code[j] != following[j]]
                self.assertEqual(len(changed), 1, (groups, code))

    def test_all_codes_are_unlike(self):
        for groups in range(2, 13):
            codes = {code_of(groups, place) for place in range(PLACES[groups])}
            self.assertEqual(len(codes), PLACES[groups])

    def test_answers_are_equal(self):
        for groups in range(2, 13):
            self.assertEqual(code_of(groups, 1), code_of(groups, 1))


if __name__ == "__main__":
    unittest.main()

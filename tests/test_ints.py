"""Point 2: what an int is here."""

import unittest

from pistonrounds.ints import is_int, is_within, least_power


class IntsTest(unittest.TestCase):
    def test_ints(self):
        for thing in (0, 1, -1, 10 ** 999, -(10 ** 999)):
            self.assertIs(is_int(thing), True)

    def test_what_is_no_int(self):
        for thing in (True, False, None, "1", b"1", (1,), [1], {1: 1}, ()):
            self.assertIs(is_int(thing), False, repr(thing))

    def test_within(self):
        self.assertEqual([k for k in range(-3, 9) if is_within(k, 1, 4)], [1, 2, 3, 4])
        for thing in (True, None, "2", (2,), 10 ** 999, -(10 ** 999)):
            self.assertIs(is_within(thing, 0, 4), False)

    def test_least_power(self):
        told = [least_power(many) for many in range(1, 18)]
        self.assertEqual(told, [0, 1, 2, 2, 3, 3, 3, 3, 4, 4, 4, 4, 4, 4, 4, 4, 5])


if __name__ == "__main__":
    unittest.main()

"""The classes of pistonrounds.errors."""

import unittest

from pistonrounds import errors

NAMES = (
    "NoCircuit", "NoStand", "NoEvent", "Restless", "NoRound", "NoCut", "NoFault", "TooGreat", "NoText", "NoAsk",
    "NoWork",
)


class ErrorsTest(unittest.TestCase):
    def test_piston_error_stands_directly_under_value_error(self):
        self.assertEqual(errors.PistonError.__bases__, (ValueError,))

    def test_eleven_classes_stand_directly_under_piston_error(self):
        self.assertEqual(len(set(NAMES)), 11)
        for name in NAMES:
            self.assertEqual(getattr(errors, name).__bases__, (errors.PistonError,), name)

    def test_no_event_and_restless_have_at(self):
        for kind in (errors.NoEvent, errors.Restless):
            for at in (0, 7, 1199):
                self.assertEqual(kind(at).at, at)
                with self.assertRaises(kind) as caught:
                    raise kind(at)
                self.assertEqual(caught.exception.at, at)

    def test_no_event_and_restless_are_made_with_one_number(self):
        for kind in (errors.NoEvent, errors.Restless):
            self.assertRaises(TypeError, kind)
            self.assertRaises(TypeError, kind, 1, 2)


if __name__ == "__main__":
    unittest.main()

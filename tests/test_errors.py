"""[0.7]: the refusals."""

import unittest

from driftwood.errors import (
    DriftError, NoHandle, NoPath, NoRoom, NoText, NoThing, NoView, NoWant, NoWatch, Twice)

REFUSALS = {
    "NoThing": NoThing, "NoWant": NoWant, "NoPath": NoPath, "NoHandle": NoHandle, "NoRoom": NoRoom,
    "Twice": Twice, "NoView": NoView, "NoWatch": NoWatch, "NoText": NoText}


def taken_by(kind, error):
    try:
        raise error
    except kind:
        return True
    except Exception:
        return False


class Refusals(unittest.TestCase):
    def test_any_refusal_is_a_value_error(self):
        self.assertEqual(DriftError.__bases__, (ValueError,))

    def test_each_stands_straight_beneath_drift_error(self):
        for name, refusal in REFUSALS.items():
            with self.subTest(name):
                self.assertEqual(refusal.__bases__, (DriftError,))

    def test_each_bears_its_own_name(self):
        for name, refusal in REFUSALS.items():
            self.assertEqual(refusal.__name__, name)

    def test_each_is_taken_by_the_two_above_it(self):
        for name, refusal in REFUSALS.items():
            with self.subTest(name):
                self.assertTrue(taken_by(DriftError, refusal("why")))
                self.assertTrue(taken_by(ValueError, refusal("why")))

    def test_none_is_taken_by_another_one(self):
        for name, refusal in REFUSALS.items():
            for other_name, other in REFUSALS.items():
                with self.subTest(name, other=other_name):
                    self.assertEqual(taken_by(other, refusal("why")), name == other_name)

    def test_a_plain_drift_error_is_none_of_them(self):
        for name, refusal in REFUSALS.items():
            with self.subTest(name):
                self.assertFalse(taken_by(refusal, DriftError("why")))

    def test_a_plain_value_error_is_no_refusal(self):
        self.assertFalse(taken_by(DriftError, ValueError("why")))


if __name__ == "__main__":
    unittest.main()

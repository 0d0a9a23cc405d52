"""The refusals of the interface: their order under each other, and their fields."""

import unittest

from gatehands import errors
from gatehands.errors import BadGate, BadText, GateError, NoHand, OtherGate, TooMany, TwoWithin


class Errors(unittest.TestCase):

    def test_all_refusals_are_value_errors(self):
        self.assertEqual(GateError.__bases__, (ValueError,))

    def test_each_refusal_stands_right_under_gate_error(self):
        for error in (BadGate, NoHand, TooMany, TwoWithin, OtherGate, BadText):
            self.assertEqual(error.__bases__, (GateError,), error)

    def test_there_are_no_other_refusals(self):
        told = {name for name, value in vars(errors).items() if isinstance(value, type)}
        self.assertEqual(told, {"GateError", "BadGate", "NoHand", "TooMany", "TwoWithin", "OtherGate", "BadText"})

    def test_bad_gate_has_why_hand_and_step(self):
        error = BadGate("step", 2, 5)
        self.assertEqual((error.why, error.hand, error.step), ("step", 2, 5))

    def test_two_within_has_a_weaving_of_its_own(self):
        weaving = [0, 1, 1]
        error = TwoWithin(weaving)
        weaving.append(0)
        self.assertEqual(error.weaving, [0, 1, 1])

    def test_bad_text_has_its_row(self):
        self.assertEqual(BadText(7).row, 7)

    def test_each_refusal_can_be_raised_and_caught_as_any_refusal(self):
        made = (
            BadGate("in", 0, 0), NoHand("hand"), TooMany("states"), TwoWithin([]), OtherGate("gate"), BadText(0),
        )
        for error in made:
            with self.assertRaises(GateError):
                raise error


if __name__ == "__main__":
    unittest.main()

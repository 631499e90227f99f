import copy
import unittest

from beatswitch.errors import (
    NoBeat, NoCall, NoLine, NoPiece, NoRow, NotFull, NoText, NotSteady, SwitchError, TooMany)

REFUSALS = {
    NotFull: "at", NoLine: "at", NotSteady: "at",
    NoCall: "number", NoPiece: "number", NoBeat: "number",
    NoText: "text", TooMany: "text", NoRow: "text",
}


def handed_in(field):
    if field == "text":
        return ["", "1 0 /", "a\tb\n", "{}", "9" * 6000]
    return [0, 1, -1, 59, 10 ** 59, -10 ** 59, 10 ** 5000]


class Refusals(unittest.TestCase):
    def test_field_is_what_was_handed_in(self):
        for refusal, field in REFUSALS.items():
            for value in handed_in(field):
                self.assertEqual(getattr(refusal(value), field), value)

    def test_each_can_be_raised_and_caught_as_any_refusal(self):
        for refusal, field in REFUSALS.items():
            for caught in (refusal, SwitchError, ValueError):
                with self.assertRaises(caught) as held:
                    raise refusal(handed_in(field)[0])
                self.assertIs(type(held.exception), refusal)

    def test_none_is_under_another_one(self):
        for refusal in REFUSALS:
            self.assertEqual(refusal.__bases__, (SwitchError,))
            for other in REFUSALS:
                self.assertEqual(issubclass(refusal, other), refusal is other)
        self.assertEqual(SwitchError.__bases__, (ValueError,))

    def test_each_has_a_message(self):
        for refusal, field in REFUSALS.items():
            for value in handed_in(field):
                self.assertNotEqual(str(refusal(value)), "")

    def test_a_copy_has_the_same_field(self):
        for refusal, field in REFUSALS.items():
            value = handed_in(field)[1]
            self.assertEqual(getattr(copy.copy(refusal(value)), field), value)


if __name__ == "__main__":
    unittest.main()

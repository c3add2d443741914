"""The interface of airtime.errors."""

import unittest

from airtime import errors

PLAIN = ("BadEnd", "BadFillers", "BadRoom", "BadSecond", "BadCount", "NotLive", "BadRow", "BadPlace", "NoRow")


class Errors(unittest.TestCase):
    def test_a_refusal_is_a_value_error(self):
        self.assertEqual(errors.AirError.__bases__, (ValueError,))

    def test_plain_refusals(self):
        for name in PLAIN:
            with self.subTest(name):
                refusal = getattr(errors, name)
                self.assertEqual(refusal.__bases__, (errors.AirError,))
                self.assertEqual(refusal.__module__, "airtime.errors")
                with self.assertRaises(errors.AirError):
                    raise refusal("why")

    def test_refusals_with_at(self):
        for name in ("BadRows", "BadLog"):
            with self.subTest(name):
                refusal = getattr(errors, name)
                self.assertEqual(refusal.__bases__, (errors.AirError,))
                self.assertEqual(refusal.__module__, "airtime.errors")
                self.assertEqual(refusal(0).at, 0)
                self.assertEqual(refusal(30).at, 30)
                self.assertFalse(hasattr(refusal(3), "line"))

    def test_refusal_with_line(self):
        self.assertEqual(errors.BadText.__bases__, (errors.AirError,))
        self.assertEqual(errors.BadText.__module__, "airtime.errors")
        self.assertEqual(errors.BadText(0).line, 0)
        self.assertEqual(errors.BadText(7).line, 7)
        self.assertFalse(hasattr(errors.BadText(7), "at"))

    def test_only_those_have_values(self):
        for name in PLAIN:
            with self.subTest(name):
                refusal = getattr(errors, name)("why")
                self.assertFalse(hasattr(refusal, "at"))
                self.assertFalse(hasattr(refusal, "line"))


if __name__ == "__main__":
    unittest.main()

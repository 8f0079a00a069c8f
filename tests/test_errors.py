"""textwrapper/errors.py: any refusal is a WrapError, and that a ValueError."""

import unittest

from textwrapper import errors

REFUSALS = [
    "NoWidth", "LongWord", "NoStarts", "TooWide", "TooFew",
    "TooMany", "NoPlace", "NoWord", "Full", "NoWayBack",
]


class ErrorsTest(unittest.TestCase):
    def test_wrap_error_is_a_value_error(self):
        self.assertEqual(errors.WrapError.__bases__, (ValueError,))

    def test_each_refusal_is_a_wrap_error(self):
        for name in REFUSALS:
            with self.subTest(name):
                self.assertEqual(getattr(errors, name).__bases__, (errors.WrapError,))

    def test_each_refusal_is_raised_and_caught_by_its_name(self):
        for name in REFUSALS:
            refusal = getattr(errors, name)
            with self.subTest(name):
                with self.assertRaises(refusal):
                    raise refusal("wording")

    def test_no_two_refusals_are_the_same(self):
        self.assertEqual(len({getattr(errors, name) for name in REFUSALS}), 10)


if __name__ == "__main__":
    unittest.main()

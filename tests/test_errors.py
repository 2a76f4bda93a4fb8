"""The interface of boxword/errors.py."""

import unittest

from boxword import errors

BELOW = (errors.BadMachine, errors.BadWord, errors.TooMany, errors.BadText)


class TestErrors(unittest.TestCase):
    def test_any_refusal_is_a_value_error(self):
        self.assertTrue(issubclass(errors.BoxError, ValueError))

    def test_each_stands_right_below_the_one(self):
        for error in BELOW:
            self.assertEqual(error.__bases__, (errors.BoxError,))

    def test_none_stands_below_another(self):
        for error in BELOW:
            for above in BELOW:
                self.assertEqual(issubclass(error, above), error is above)


if __name__ == "__main__":
    unittest.main()

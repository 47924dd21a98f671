"""What stands under what among the refusals."""

import unittest

from rimhouse import errors
from rimhouse.errors import NoBook, NoHouse, NoRow, NoText, NothingLeft, RimError, TooMany

REFUSALS = [NoBook, NoHouse, TooMany, NoText, NoRow, NothingLeft]


class Errors(unittest.TestCase):
    def test_rim_error_stands_under_value_error(self):
        self.assertEqual(RimError.__bases__, (ValueError,))

    def test_each_refusal_stands_under_rim_error(self):
        for refusal in REFUSALS:
            with self.subTest(refusal.__name__):
                self.assertTrue(issubclass(refusal, RimError))
                self.assertTrue(issubclass(refusal, ValueError))

    def test_no_refusal_stands_under_another_one(self):
        for one in REFUSALS:
            self.assertFalse(issubclass(RimError, one))
            for other in REFUSALS:
                with self.subTest(one=one.__name__, other=other.__name__):
                    self.assertEqual(issubclass(one, other), one is other)

    def test_none_stands_under_an_error_of_another_sort(self):
        for refusal in REFUSALS:
            with self.subTest(refusal.__name__):
                self.assertFalse(issubclass(refusal, (LookupError, TypeError, ArithmeticError, RuntimeError)))

    def test_each_bears_its_name(self):
        for name in ["RimError", "NoBook", "NoHouse", "TooMany", "NoText", "NoRow", "NothingLeft"]:
            with self.subTest(name):
                self.assertEqual(getattr(errors, name).__name__, name)

    def test_raised_with_words_and_taken_as_any_refusal(self):
        for refusal in REFUSALS:
            for taken_as in (refusal, RimError, ValueError):
                with self.subTest(refusal.__name__, taken_as=taken_as.__name__):
                    with self.assertRaises(taken_as) as caught:
                        raise refusal("some words")
                    self.assertEqual(str(caught.exception), "some words")


if __name__ == "__main__":
    unittest.main()

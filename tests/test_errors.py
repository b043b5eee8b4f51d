"""The error classes of the interface."""

import unittest

from partbook.errors import BadNumber, BadSize, BadTable, BookError, NoTurn

REFUSALS = (BadNumber, BadTable, BadSize, NoTurn)


class ErrorClasses(unittest.TestCase):
    def test_book_error_is_a_value_error(self):
        self.assertTrue(issubclass(BookError, ValueError))

    def test_each_refusal_is_a_book_error(self):
        for refusal in REFUSALS:
            with self.subTest(refusal=refusal.__name__):
                self.assertTrue(issubclass(refusal, BookError))
                self.assertIsNot(refusal, BookError)

    def test_no_refusal_is_another_one(self):
        for one in REFUSALS:
            for two in REFUSALS:
                if one is not two:
                    with self.subTest(one=one.__name__, two=two.__name__):
                        self.assertFalse(issubclass(one, two))

    def test_each_refusal_can_be_raised_and_taken_as_its_bases(self):
        for refusal in REFUSALS:
            for base in (refusal, BookError, ValueError):
                with self.subTest(refusal=refusal.__name__, base=base.__name__):
                    with self.assertRaises(base):
                        raise refusal("refused")

    def test_names(self):
        names = [each.__name__ for each in (BookError,) + REFUSALS]
        self.assertEqual(names, ["BookError", "BadNumber", "BadTable", "BadSize", "NoTurn"])


if __name__ == "__main__":
    unittest.main()

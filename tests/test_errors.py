import unittest

from unendtold import errors
from unendtold.errors import InvalidWord, UnendtoldError


class Errors(unittest.TestCase):
    def test_base_is_a_value_error(self):
        self.assertTrue(issubclass(UnendtoldError, ValueError))

    def test_all_derive_from_the_base(self):
        for name in ("TooManyValues", "TooManyLines", "InvalidWord", "UnknownName", "NotFitting"):
            with self.subTest(name=name):
                self.assertTrue(issubclass(getattr(errors, name), UnendtoldError))

    def test_they_are_of_different_kinds(self):
        names = ("TooManyValues", "TooManyLines", "InvalidWord", "UnknownName", "NotFitting")
        for one in names:
            for two in names:
                if one != two:
                    self.assertFalse(issubclass(getattr(errors, one), getattr(errors, two)))

    def test_made_with_a_text(self):
        for name in ("UnendtoldError", "TooManyValues", "TooManyLines", "UnknownName", "NotFitting"):
            with self.assertRaises(getattr(errors, name)):
                raise getattr(errors, name)("a text")

    def test_invalid_word_has_its_number(self):
        self.assertEqual(InvalidWord(0).number, 0)
        with self.assertRaises(ValueError) as caught:
            raise InvalidWord(7)
        self.assertEqual(caught.exception.number, 7)


if __name__ == "__main__":
    unittest.main()

import unittest

from lumpplans.words import is_number, is_word
from tests.samples import NO_TUPLES, P


class WordsTest(unittest.TestCase):
    def test_words(self):
        for value in ("a", "z", "o", "a0", "z9", "plan", "a1b2c3", "abcdefghijkl", "a23456789012"):
            self.assertIs(is_word(value), True, value)

    def test_no_words(self):
        wrong = (
            "", "abcdefghijklm", "a234567890123", "0", "0a", "9abc", "A", "aB", "Abc", " a", "a ",
            "a\n", "\na", "a b", "a_b", "_a", "a-b", "a.", "{", "`", "a\t", "a{", "a@", "a/", "a:",
        )
        for value in wrong:
            self.assertIs(is_word(value), False, repr(value))

    def test_what_is_no_string_is_no_word(self):
        for value in NO_TUPLES + ((), ("a",), P, ["a"], {"a": 1}):
            if not isinstance(value, str):
                self.assertIs(is_word(value), False, repr(value))

    def test_numbers(self):
        for value in (0, 1, 2, 10, 10 ** 30, 10 ** 40):
            self.assertIs(is_number(value), True, value)

    def test_no_numbers(self):
        for value in (-1, -10 ** 40, True, False, None, "", "0", "12", (), (1,), [], [1], {}, P):
            self.assertIs(is_number(value), False, repr(value))


if __name__ == "__main__":
    unittest.main()

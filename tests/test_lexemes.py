import unittest

from lumpplans.errors import BadText
from lumpplans.lexemes import lexemes
from tests.samples import check_new_list, with_few_calls


class LexemesTest(unittest.TestCase):
    def check_wrong(self, text, place):
        with self.assertRaises(BadText) as caught:
            lexemes(text)
        self.assertEqual(caught.exception.place, place)

    def test_examples(self):
        self.assertEqual(lexemes("12ab"), [("number", "12", 0), ("word", "ab", 2)])
        self.assertEqual(lexemes("007"), [("number", "0", 0), ("number", "0", 1), ("number", "7", 2)])
        self.assertEqual(lexemes("oo"), [("word", "oo", 0)])
        self.check_wrong("abcdefghijklm", 0)
        self.check_wrong("\t", 0)

    def test_signs(self):
        self.assertEqual(
            lexemes("(){},;"), [("sign", sign, place) for place, sign in enumerate("(){},;")])

    def test_numbers(self):
        self.assertEqual(lexemes("0"), [("number", "0", 0)])
        self.assertEqual(lexemes("10"), [("number", "10", 0)])
        self.assertEqual(lexemes("012"), [("number", "0", 0), ("number", "12", 1)])
        self.assertEqual(lexemes("9876543210"), [("number", "9876543210", 0)])
        self.assertEqual(lexemes("1" + "0" * 40), [("number", "1" + "0" * 40, 0)])
        self.assertEqual(lexemes("0a"), [("number", "0", 0), ("word", "a", 1)])
        self.assertEqual(lexemes("1 2"), [("number", "1", 0), ("number", "2", 2)])

    def test_words(self):
        for word in ("o", "a1", "table", "a0b1", "abcdefghijkl", "z23456789012"):
            self.assertEqual(lexemes(word), [("word", word, 0)])
        self.assertEqual(lexemes("z0 a"), [("word", "z0", 0), ("word", "a", 3)])
        self.assertEqual(lexemes("12abcdefghijkl"), [("number", "12", 0), ("word", "abcdefghijkl", 2)])

    def test_each_letter_and_digit(self):
        for letter in "abcdefghijklmnopqrstuvwxyz":
            self.assertEqual(lexemes(letter), [("word", letter, 0)])
            self.assertEqual(lexemes("1o" + letter), [("number", "1", 0), ("word", "o" + letter, 1)])
        for digit in "0123456789":
            self.assertEqual(lexemes(digit), [("number", digit, 0)])
            self.assertEqual(lexemes("4" + digit), [("number", "4" + digit, 0)])
            self.assertEqual(lexemes("o" + digit), [("word", "o" + digit, 0)])

    def test_words_that_are_too_long(self):
        self.check_wrong("o abcdefghijklm", 2)
        self.check_wrong("z234567890123", 0)
        self.check_wrong("12abcdefghijklm", 2)
        self.check_wrong("(abcdefghijkl abcdefghijklmnopqrst)", 14)

    def test_gaps(self):
        self.assertEqual(lexemes(""), [])
        self.assertEqual(lexemes(" \n\n  "), [])
        self.assertEqual(
            lexemes("\n (o\n\no )\n"),
            [("sign", "(", 2), ("word", "o", 3), ("word", "o", 6), ("sign", ")", 8)])

    def test_characters_that_begin_none(self):
        allowed = "abcdefghijklmnopqrstuvwxyz0123456789(){},; "
        others = [chr(code) for code in range(32, 127) if chr(code) not in allowed]
        self.assertEqual(len(others), 52)
        for sign in others + ["\t"]:
            self.check_wrong(sign, 0)
            self.check_wrong("(o " + sign + " o", 3)
            self.check_wrong("o" + sign, 1)
            self.check_wrong("12" + sign, 2)
            self.check_wrong(" \n" + sign + sign, 2)

    def test_the_first_one_is_told(self):
        self.check_wrong("o A abcdefghijklm", 2)
        self.check_wrong("o abcdefghijklm A", 2)
        self.check_wrong("oA", 1)

    def test_long_texts(self):
        self.assertEqual(
            with_few_calls(lambda: lexemes("o " * 10000)),
            [("word", "o", 2 * k) for k in range(10000)])
        self.assertEqual(lexemes("(" * 20000), [("sign", "(", k) for k in range(20000)])
        self.assertEqual(lexemes("0" * 20000), [("number", "0", k) for k in range(20000)])
        self.assertEqual(lexemes(" " * 19999 + "a"), [("word", "a", 19999)])
        self.check_wrong("; " * 9999 + "a!", 19999)
        self.check_wrong("a" * 20000, 0)
        self.check_wrong("b" + " c" * 9999 + "?", 19999)

    def test_new_lists(self):
        check_new_list(self, lambda: lexemes("(o 12)"))
        for found in lexemes("(o 12)"):
            self.assertIs(type(found), tuple)


if __name__ == "__main__":
    unittest.main()

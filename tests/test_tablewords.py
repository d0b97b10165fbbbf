import random
import unittest

from lumpplans.gluing import glue, glued
from lumpplans.primes import primes
from lumpplans.tables import table_size
from lumpplans.tablewords import begins, ends, greatest_beginning, power, rest_ahead, rest_behind, root
from tests.samples import P, TWO, L, R, TWO_TWO, TWO_L, PRIME_SIX, drawn_table
from tests.wordsamples import A, B, E, LARGEST, TABLES, WORDS, near_tables


class ExamplesTest(unittest.TestCase):
    def test_beginnings(self):
        self.assertEqual(A, TWO_L)
        self.assertEqual(greatest_beginning(E, A), E)
        self.assertIs(greatest_beginning(A, B), None)

    def test_powers(self):
        self.assertEqual(root(power(E, 3)), (E, 3))


class BeginsTest(unittest.TestCase):
    def check(self, one, other, word, longer):
        begun = longer[:len(word)] == word
        ended = longer[len(longer) - len(word):] == word and len(word) <= len(longer)
        self.assertIs(begins(one, other), begun)
        self.assertIs(ends(one, other), ended)
        behind = glued(longer[len(word):]) if begun and word != longer else None
        ahead = glued(longer[:len(longer) - len(word)]) if ended and word != longer else None
        self.assertEqual(rest_behind(one, other), behind)
        self.assertEqual(rest_ahead(one, other), ahead)

    def test_by_words(self):
        for word, one in zip(WORDS, TABLES):
            for longer, other in zip(WORDS, TABLES):
                self.check(one, other, word, longer)

    def test_with_itself(self):
        for table in TABLES + near_tables():
            self.assertIs(begins(table, table), True)
            self.assertIs(ends(table, table), True)
            self.assertIs(rest_behind(table, table), None)
            self.assertIs(rest_ahead(table, table), None)
            self.assertEqual(greatest_beginning(table, table), table)

    def test_near_tables(self):
        for one in near_tables():
            for other in TABLES:
                self.check(one, other, tuple(primes(one)), tuple(primes(other)))
                self.check(other, one, tuple(primes(other)), tuple(primes(one)))

    def test_equal_entries_are_no_beginning(self):
        """The entries up to a number need not begin the table, if there is no cut."""
        self.assertEqual(PRIME_SIX[:1], TWO)
        self.assertIs(begins(TWO, PRIME_SIX), False)
        self.assertIs(rest_behind(TWO, PRIME_SIX), None)
        self.assertIs(begins(L, (P, (P, ()), (P, P))), False)
        self.assertIs(rest_ahead(TWO, L), None)
        self.assertIs(ends(TWO, L), False)

    def test_great_ones(self):
        s = drawn_table(random.Random(71), 6)
        t = drawn_table(random.Random(72), 10)
        both = glue(s, t)
        self.assertEqual((rest_behind(s, both), rest_ahead(t, both)), (t, s))
        self.assertIs(begins(both, s), False)
        self.assertIs(ends(both, t), False)


class PowerTest(unittest.TestCase):
    def test_powers(self):
        for table in (TWO, L, R, A, TWO_TWO):
            made = table
            n = 1
            while table_size(made) <= LARGEST:
                self.assertEqual(power(table, n), made)
                made = glue(made, table)
                n += 1
        self.assertEqual(power(A, 1), A)

    def test_roots_of_powers(self):
        for word, table in zip(WORDS, TABLES):
            n = 1
            while table_size(table) ** n <= LARGEST:
                part, many = root(power(table, n))
                self.assertIs(type(root(power(table, n))), tuple)
                self.assertEqual(power(part, many), power(table, n))
                self.assertEqual(many % n, 0)
                self.assertEqual(root(table), (part, many // n))
                self.assertEqual(root(part), (part, 1))
                n += 1

    def test_roots_by_words(self):
        for word, table in zip(WORDS, TABLES):
            least = next(
                many for many in range(1, len(word) + 1)
                if len(word) % many == 0 and word[:many] * (len(word) // many) == word)
            self.assertEqual(root(table), (glued(word[:least]), len(word) // least))

    def test_roots_of_primes(self):
        for table in (TWO, L, R, PRIME_SIX, drawn_table(random.Random(73), 11)):
            self.assertEqual(root(table), (table, 1))


class GreatestBeginningTest(unittest.TestCase):
    def test_by_words(self):
        for word, one in zip(WORDS, TABLES):
            for other_word, other in zip(WORDS, TABLES):
                common = 0
                while word[common:common + 1] == other_word[common:common + 1] != ():
                    common += 1
                expected = glued(word[:common]) if common else None
                self.assertEqual(greatest_beginning(one, other), expected)

    def test_it_begins_both(self):
        for one in near_tables():
            for other in TABLES:
                found = greatest_beginning(one, other)
                self.assertEqual(found is None, primes(one)[0] != primes(other)[0])
                if found is not None:
                    self.assertTrue(begins(found, one) and begins(found, other))


if __name__ == "__main__":
    unittest.main()

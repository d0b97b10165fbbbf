import unittest

from lumpplans.gluing import glued
from lumpplans.overlaps import borders, joint, overlap, periods
from lumpplans.primes import is_prime_table, primes
from lumpplans.tablewords import begins, ends, power, root
from tests.samples import TWO, L, R, PRIME_SIX, check_new_list
from tests.wordsamples import A, B, E, LARGEST, TABLES, WORDS, size_of_word, words


class ExamplesTest(unittest.TestCase):
    def test_overlaps_with_itself(self):
        table = glued([E, L, E])
        self.assertEqual(borders(table), [1])
        self.assertEqual(periods(table), [2, 3])
        self.assertEqual(overlap(table, table), [E, L, E])


class OverlapTest(unittest.TestCase):
    def test_by_words(self):
        for word, one in zip(WORDS, TABLES):
            for other_word, other in zip(WORDS, TABLES):
                longest = max(
                    many for many in range(min(len(word), len(other_word)) + 1)
                    if word[len(word) - many:] == other_word[:many])
                self.assertEqual(overlap(one, other), list(other_word[:longest]))
                if size_of_word(word + other_word[longest:]) <= LARGEST:
                    found = joint(one, other)
                    self.assertEqual(primes(found), list(word + other_word[longest:]))
                    self.assertTrue(begins(one, found) and ends(other, found))

    def test_the_joint_has_the_fewest_primes(self):
        for word, one in zip(WORDS[:14], TABLES):
            for other_word, other in zip(WORDS[:14], TABLES):
                if size_of_word(word + other_word) <= LARGEST:
                    fewest = min(
                        len(both) for both in words((TWO, L), 5)
                        if both[:len(word)] == word and both[len(both) - len(other_word):] == other_word
                        and len(both) >= max(len(word), len(other_word)))
                    self.assertEqual(len(primes(joint(one, other))), fewest)

    def test_no_overlap(self):
        self.assertEqual(overlap(TWO, L), [])
        self.assertEqual(joint(TWO, L), A)
        self.assertEqual(overlap(A, A), [TWO, L])
        self.assertEqual(overlap(A, glued([R, TWO])), [])
        self.assertEqual(overlap(B, A), [TWO])
        self.assertEqual(overlap(A, B), [L])

    def test_one_within_the_other(self):
        whole = glued([TWO, L, R])
        self.assertEqual(joint(glued([TWO, L]), whole), whole)
        self.assertEqual(overlap(glued([TWO, L]), whole), [TWO, L])
        self.assertEqual(joint(whole, glued([L, R])), whole)
        self.assertEqual(overlap(whole, glued([L, R])), [L, R])
        # In the middle only, so it does not end the whole.
        self.assertEqual(overlap(whole, L), [])

    def test_with_itself(self):
        for word, table in zip(WORDS, TABLES):
            self.assertEqual(overlap(table, table), list(word))
            self.assertEqual(joint(table, table), table)

    def test_new_lists(self):
        check_new_list(self, lambda: overlap(A, B))
        check_new_list(self, lambda: overlap(TWO, L))


class PeriodsTest(unittest.TestCase):
    def test_by_words(self):
        for word, table in zip(WORDS, TABLES):
            n = len(word)
            self.assertEqual(periods(table), [
                k for k in range(1, n + 1) if all(word[i] == word[i + k] for i in range(n - k))])
            self.assertEqual(borders(table), [
                many for many in range(1, n) if list(word[:many]) == list(word[-many:])])
            self.assertEqual(periods(table), [n - many for many in reversed(borders(table))] + [n])

    def test_powers(self):
        self.assertEqual(borders(power(TWO, 5)), [1, 2, 3, 4])
        self.assertEqual(periods(power(TWO, 5)), [1, 2, 3, 4, 5])
        self.assertEqual(borders(power(A, 2)), [2])
        self.assertEqual(periods(power(A, 2)), [2, 4])
        for word, table in zip(WORDS, TABLES):
            n = len(word)
            least = min(k for k in periods(table) if n % k == 0)
            self.assertEqual(root(table)[1], n // least)

    def test_primes(self):
        for table in (TWO, L, R, PRIME_SIX):
            self.assertIs(is_prime_table(table), True)
            self.assertEqual(borders(table), [])
            self.assertEqual(periods(table), [1])

    def test_new_lists(self):
        check_new_list(self, lambda: borders(power(TWO, 3)))
        check_new_list(self, lambda: periods(A))


if __name__ == "__main__":
    unittest.main()

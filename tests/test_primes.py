import random
import unittest

from lumpplans.cuts import cuts
from lumpplans.gluing import glue, glued
from lumpplans.primes import is_prime_table, primes
from lumpplans.shapes import comb
from lumpplans.tables import is_table, table_size
from tests import oracles
from tests.samples import (
    P, TWO, L, R, TWO_TWO, TWO_L, PRIME_SIX, check_new_list, drawn_table, tables_of,
)


def drawn_primes(draw, sizes):
    """Return a list of primes of these sizes, each told to be one by gluing."""
    found = []
    while len(found) < len(sizes):
        table = drawn_table(draw, sizes[len(found)])
        if all(oracles.behind(table, b) is None for b in range(2, table_size(table))):
            found.append(table)
    return found


class PrimesTest(unittest.TestCase):
    def test_examples(self):
        for table in (TWO, L, R, PRIME_SIX):
            self.assertIs(is_prime_table(table), True)
            self.assertEqual(primes(table), [table])
        self.assertEqual(primes(TWO_TWO), [TWO, TWO])
        self.assertEqual(primes(TWO_L), [TWO, L])
        self.assertEqual(primes(glue(L, TWO)), [L, TWO])
        for table in (TWO_TWO, TWO_L, glue(L, TWO)):
            self.assertIs(is_prime_table(table), False)

    def test_all_small_tables(self):
        for size, many in ((2, 1), (3, 2), (4, 9), (5, 140)):
            self.assertEqual(sum(is_prime_table(table) for table in tables_of(size)), many)

    def test_all_tables_of_size_six(self):
        glued_ones = [table for table in tables_of(6) if not is_prime_table(table)]
        expected = [glue(TWO, L), glue(TWO, R), glue(L, TWO), glue(R, TWO)]
        self.assertEqual(sorted(map(repr, glued_ones)), sorted(map(repr, expected)))

    def test_what_was_glued_is_told(self):
        draw = random.Random(1)
        for sizes in ((2, 3), (4, 3), (2, 2, 2), (2, 3, 2), (5, 4, 3), (2, 2, 3, 5), (3, 2, 2, 4), (12, 5),
                      (2, 2, 2, 2, 3), (60,), (30, 2), (2, 30)):
            expected = drawn_primes(draw, sizes)
            found = primes(glued(expected))
            self.assertEqual(found, expected)
            self.assertIs(is_prime_table(glued(expected)), len(sizes) == 1)

    def test_told_primes_are_primes(self):
        draw = random.Random(2)
        for sizes in ((4, 4), (6, 6), (8, 3), (4, 2, 6), (6, 10)):
            table = glued([drawn_table(draw, size) for size in sizes])
            found = primes(table)
            self.assertEqual(glued(found), table)
            self.assertEqual(len(found), len(cuts(table)) + 1)
            for prime in found:
                self.assertIs(is_table(prime), True)
                self.assertIs(is_prime_table(prime), True)
                self.assertEqual(primes(prime), [prime])

    def test_powers(self):
        for table, most in ((TWO, 5), (L, 3), (R, 3), (PRIME_SIX, 2)):
            for n in range(1, most + 1):
                self.assertEqual(primes(glued([table] * n)), [table] * n)

    def test_sequence_counts(self):
        made = {}
        for sequence in ([TWO, L, R], [TWO, R, L], [L, TWO, R], [L, R, TWO], [R, L, TWO], [R, TWO, L]):
            made[repr(glued(sequence))] = sequence
            self.assertEqual(primes(glued(sequence)), sequence)
        self.assertEqual(len(made), 6)

    def test_combs(self):
        left = tuple(comb(m, "left") for m in range(2, 61))
        self.assertEqual(primes(left), [left])
        self.assertIs(is_prime_table(left), True)
        self.assertIs(is_prime_table((P, (P, ()), ((P, ()), ()))), True)

    def test_new_lists(self):
        check_new_list(self, lambda: primes(TWO_TWO))
        check_new_list(self, lambda: primes(TWO))


if __name__ == "__main__":
    unittest.main()

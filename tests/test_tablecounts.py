import unittest

from lumpplans.primes import primes
from lumpplans.shapecounts import count_shapes
from lumpplans.tablecounts import count_glued, count_primes, count_tables
from tests.samples import tables_of


class CountTest(unittest.TestCase):
    def test_examples(self):
        self.assertEqual([count_primes(size) for size in range(2, 7)], [1, 2, 9, 140, 5876])
        self.assertEqual([count_tables(size) for size in range(2, 7)], [1, 2, 10, 140, 5880])
        self.assertEqual(count_glued(4, 2), 1)
        self.assertEqual(count_glued(6, 2), 4)

    def test_by_listing(self):
        for size in range(2, 7):
            lengths = [len(primes(table)) for table in tables_of(size)]
            self.assertEqual(count_tables(size), len(lengths))
            self.assertEqual(count_primes(size), lengths.count(1))
            for k in range(1, 61):
                self.assertEqual(count_glued(size, k), lengths.count(k))

    def test_all_k_together(self):
        for size in range(2, 41):
            self.assertEqual(sum(count_glued(size, k) for k in range(1, 61)), count_tables(size))
            self.assertEqual(count_glued(size, 1), count_primes(size))
            for k in (6, 7, 30, 60):
                self.assertEqual(count_glued(size, k), 0)

    def test_products(self):
        for size in range(3, 41):
            self.assertEqual(count_tables(size), count_tables(size - 1) * count_shapes(size))
        self.assertGreater(count_tables(40), 10 ** 200)

    def test_sizes_without_divisors(self):
        for size in (2, 3, 5, 7, 11, 13, 31, 37):
            self.assertEqual(count_primes(size), count_tables(size))
            self.assertEqual(count_glued(size, 2), 0)

    def test_powers_of_two(self):
        """Just one table of the size 2 ** k is glued of k primes, and none of more."""
        for k in range(1, 6):
            self.assertEqual(count_glued(2 ** k, k), 1)
            self.assertEqual(count_glued(2 ** k, k + 1), 0)
        # Two, two and a prime of size 4 stand in three sequences.
        self.assertEqual(count_glued(16, 3), 3 * 9)
        self.assertEqual(count_glued(36, 4), 6 * 2 * 2)


if __name__ == "__main__":
    unittest.main()

import random
import unittest

from lumpplans.errors import TooGreat
from lumpplans.gluing import glue
from lumpplans.numbering import (
    drawn_table, next_table, prime_number, prime_of, table_number, table_of, tables_from,
)
from lumpplans.primes import is_prime_table
from lumpplans.shapes import comb
from lumpplans.tablecounts import count_primes, count_tables
from lumpplans.tables import is_table, table_size
from tests import samples
from tests.samples import P, TWO, L, R, TWO_TWO, TWO_L, PRIME_SIX, check_new_list, with_few_calls
from tests.test_shapecounts import place_in_order


def listing(size):
    """Return all tables of a size in order."""
    return sorted(samples.tables_of(size), key=lambda table: [place_in_order(made) for made in table])


def edge_table(size, side):
    """Return the first or the last table of a size."""
    return tuple(comb(m, side) for m in range(2, size + 1))


class TablesTest(unittest.TestCase):
    def test_examples(self):
        self.assertEqual([table_of(3, 0), table_of(3, 1)], [R, L])
        self.assertEqual(table_number(TWO_TWO), 7)
        self.assertEqual(table_of(4, 7), TWO_TWO)
        self.assertEqual(table_of(2, 0), TWO)

    def test_all_of_small_sizes(self):
        for size in range(2, 6):
            tables = listing(size)
            self.assertEqual([table_of(size, number) for number in range(len(tables))], tables)
            self.assertEqual([table_number(table) for table in tables], list(range(len(tables))))
            self.assertEqual([next_table(table) for table in tables], tables[1:] + [None])

    def test_first_and_last(self):
        for size in (2, 3, 6, 17, 39, 40):
            last = count_tables(size) - 1
            self.assertEqual(table_of(size, 0), edge_table(size, "right"))
            self.assertEqual(table_number(edge_table(size, "right")), 0)
            self.assertEqual(table_number(edge_table(size, "left")), last)
            self.assertIs(next_table(edge_table(size, "left")), None)
            if last < 10 ** 60:
                self.assertEqual(table_of(size, last), edge_table(size, "left"))

    def test_too_great(self):
        for size in range(2, 13):
            for number in (count_tables(size), count_tables(size) + 1, 10 ** 60 - 1):
                with self.assertRaises(TooGreat):
                    table_of(size, number)

    def test_great_sizes(self):
        draw = random.Random(81)
        for size in (6, 12, 23, 40):
            for _ in range(4):
                table = samples.drawn_table(draw, size)
                number = table_number(table)
                following = next_table(table)
                self.assertEqual(table_of(size, number), table)
                self.assertEqual(table_number(following), number + 1)
                self.assertTrue(is_table(following) and table_size(following) == size)
                self.assertIs(type(following), tuple)

    def test_next_goes_over(self):
        """The last entries are the last ones of their sizes, so an earlier one goes on."""
        table = edge_table(30, "right")[:5] + edge_table(30, "left")[5:]
        self.assertEqual(next_table(table)[5:], edge_table(30, "right")[5:])
        self.assertEqual(table_number(next_table(table)), table_number(table) + 1)

    def test_drawn_table(self):
        for size in (2, 3, 4, 5, 6, 12, 25, 40):
            for number in (0, 1, 2, 9, 10, 141, 10 ** 59 + 7, 10 ** 60 - 1):
                found = drawn_table(size, number)
                self.assertTrue(is_table(found) and table_size(found) == size)
                self.assertEqual(table_number(found), number % count_tables(size))
        self.assertEqual(drawn_table(4, 7), TWO_TWO)
        self.assertEqual(drawn_table(4, 17), TWO_TWO)

    def test_few_calls(self):
        with_few_calls(lambda: table_number(edge_table(40, "left")))
        with_few_calls(lambda: next_table(edge_table(40, "left")))
        with_few_calls(lambda: table_of(40, 10 ** 60 - 1))


class TablesFromTest(unittest.TestCase):
    def test_names(self):
        tables = listing(5)
        self.assertEqual(tables_from(5), tables[:10])
        self.assertEqual(tables_from(5, number=7), tables[7:17])
        self.assertEqual(tables_from(5, many=3), tables[:3])
        self.assertEqual(tables_from(5, many=50, number=80), tables[80:130])
        self.assertEqual(tables_from(4), listing(4))
        self.assertEqual(tables_from(3), [R, L])
        self.assertEqual(tables_from(2), [TWO])

    def test_by_name_alone(self):
        with self.assertRaises(TypeError):
            tables_from(5, 7)
        with self.assertRaises(TypeError):
            tables_from(5, 7, 3)

    def test_none(self):
        self.assertEqual(tables_from(5, many=0), [])
        self.assertEqual(tables_from(5, number=139, many=0), [])
        self.assertEqual(tables_from(5, number=140), [])
        self.assertEqual(tables_from(5, number=10 ** 60 - 1, many=50), [])

    def test_past_the_end(self):
        self.assertEqual(tables_from(5, number=139), listing(5)[139:])
        self.assertEqual(tables_from(5, number=135, many=50), listing(5)[135:])
        self.assertEqual(tables_from(4, many=50), listing(4))

    def test_great_sizes(self):
        start = 123456789 * 10 ** 50
        found = tables_from(40, number=start, many=50)
        self.assertEqual([table_number(table) for table in found], list(range(start, start + 50)))

    def test_new_lists(self):
        for many in (0, 1, 10):
            check_new_list(self, lambda: tables_from(5, many=many))


class PrimesTest(unittest.TestCase):
    def test_examples(self):
        self.assertEqual(prime_number(table_of(4, 8)), 7)
        self.assertEqual(prime_of(4, 7), table_of(4, 8))
        self.assertIs(prime_number(TWO_TWO), None)

    def test_all_of_small_sizes(self):
        for size in range(2, 6):
            found = [table for table in listing(size) if is_prime_table(table)]
            self.assertEqual([prime_of(size, number) for number in range(len(found))], found)
            for number, table in enumerate(found):
                self.assertEqual(prime_number(table), number)
            for table in listing(size):
                if table not in found:
                    self.assertIs(prime_number(table), None)

    def test_size_six(self):
        found = [table for table in listing(6) if is_prime_table(table)]
        glued = sorted([table_number(glue(TWO, L)), table_number(glue(TWO, R)),
                        table_number(glue(L, TWO)), table_number(glue(R, TWO))])
        numbers = {0, 1, 2, 3000, 5874, 5875} | {number + more for number in glued for more in (-5, -4, -3, -2, -1, 0, 1)}
        for number in sorted(numbers):
            self.assertEqual(prime_of(6, number), found[number])
            self.assertEqual(prime_number(found[number]), number)
        self.assertEqual(found[prime_number(PRIME_SIX)], PRIME_SIX)

    def test_too_great(self):
        for size in range(2, 7):
            for number in (count_primes(size), count_primes(size) + 1, 10 ** 60 - 1):
                with self.assertRaises(TooGreat):
                    prime_of(size, number)

    def test_glued_tables(self):
        draw = random.Random(82)
        for sizes in ((2, 3), (3, 2), (2, 4), (6, 6), (4, 10), (20, 2), (2, 19)):
            s, t = [samples.drawn_table(draw, size) for size in sizes]
            self.assertIs(prime_number(glue(s, t)), None)
        self.assertIs(prime_number(TWO_L), None)
        self.assertEqual(prime_number((P,)), 0)


if __name__ == "__main__":
    unittest.main()

import random
import unittest

from lumpplans.errors import TooGreat
from lumpplans.heights import least_height
from lumpplans.lowcounts import count_high, count_low, count_low_tables, high_number, high_shape, low_table
from lumpplans.shapecounts import count_shapes, shape_number, shape_of
from lumpplans.shapes import comb, is_shape, shape_height, size_of
from lumpplans.tables import is_table, table_size
from tests.samples import P, Q, TWO, TWO_TWO, drawn_shape, with_few_calls
from tests.test_numbering import listing as tables_in_order
from tests.test_shapecounts import listing


def low_tables(size):
    """Return the low tables of a size in order."""
    return [
        table for table in tables_in_order(size)
        if all(shape_height(made) == least_height(size_of(made)) for made in table)]


class CountTest(unittest.TestCase):
    def test_examples(self):
        self.assertEqual([count_low(m) for m in range(1, 9)], [1, 1, 2, 1, 6, 6, 4, 1])
        self.assertEqual([count_low_tables(size) for size in (2, 4, 8)], [1, 2, 288])

    def test_by_listing(self):
        for m in range(1, 10):
            heights = [shape_height(made) for made in listing(m)]
            for h in range(12):
                self.assertEqual(count_high(m, h), len([found for found in heights if found <= h]))
            self.assertEqual(count_low(m), heights.count(min(heights)))

    def test_edges(self):
        for h in (0, 1, 30, 60):
            self.assertEqual(count_high(1, h), 1)
        for m in range(2, 61):
            self.assertEqual(count_high(m, 0), 0)
            self.assertEqual(count_high(m, m - 1), count_shapes(m))
            self.assertEqual(count_high(m, 60), count_shapes(m))
            self.assertEqual(count_high(m, least_height(m) - 1), 0)
            self.assertEqual(count_high(m, m - 2), count_shapes(m) - 2 ** (m - 2))

    def test_by_parts(self):
        for m, h in ((20, 6), (33, 6), (60, 7), (60, 30), (41, 60)):
            parts = sum(count_high(k, h - 1) * count_high(m - k, h - 1) for k in range(1, m))
            self.assertEqual(count_high(m, h), parts)

    def test_low_counts(self):
        for k in range(6):
            self.assertEqual(count_low(2 ** k), 1)
            self.assertEqual(count_low(2 ** (k + 1) - 1), 2 ** k)
        for size in range(2, 41):
            made = 1
            for m in range(2, size + 1):
                made *= count_low(m)
            self.assertEqual(count_low_tables(size), made)


class ShapeTest(unittest.TestCase):
    def test_by_listing(self):
        for m in range(1, 8):
            for h in range(m + 2):
                found = [made for made in listing(m) if shape_height(made) <= h]
                self.assertEqual([high_shape(m, h, number) for number in range(len(found))], found)
                self.assertEqual([high_number(made, h) for made in found], list(range(len(found))))
                for made in listing(m):
                    if made not in found:
                        self.assertIs(high_number(made, h), None)
                for number in (len(found), len(found) + 1, 10 ** 60 - 1):
                    with self.assertRaises(TooGreat):
                        high_shape(m, h, number)

    def test_one_lump(self):
        for h in (0, 1, 60):
            self.assertEqual(high_shape(1, h, 0), ())
            self.assertEqual(high_number((), h), 0)
            with self.assertRaises(TooGreat):
                high_shape(1, h, 1)

    def test_a_shape_that_is_too_high(self):
        for m in range(2, 61):
            self.assertIs(high_number(comb(m, "left"), m - 2), None)
            self.assertIs(high_number(comb(m, "left"), 0), None)
            self.assertEqual(high_number(comb(m, "left"), m - 1), count_shapes(m) - 1)
            self.assertEqual(high_number(comb(m, "right"), m - 1), 0)

    def test_great_ones(self):
        draw = random.Random(96)
        for m, h in ((60, 6), (60, 7), (60, 12), (60, 59), (60, 60), (33, 6), (48, 10)):
            many = count_high(m, h)
            for number in (0, many - 1, draw.randrange(many), draw.randrange(many)):
                made = high_shape(m, h, number)
                self.assertTrue(is_shape(made) and size_of(made) == m and shape_height(made) <= h)
                self.assertEqual(high_number(made, h), number)
            with self.assertRaises(TooGreat):
                high_shape(m, h, many)

    def test_heights_that_do_not_matter(self):
        draw = random.Random(97)
        for m in (1, 2, 9, 30, 60):
            made = drawn_shape(draw, m)
            for h in (m - 1, m, 60):
                self.assertEqual(high_number(made, h), shape_number(made))
                self.assertEqual(high_shape(m, h, shape_number(made)), shape_of(m, shape_number(made)))

    def test_few_calls(self):
        with_few_calls(lambda: high_shape(60, 60, count_shapes(60) - 1))
        with_few_calls(lambda: high_number(comb(60, "right"), 60))


class LowTableTest(unittest.TestCase):
    def test_by_listing(self):
        for size in range(2, 7):
            found = low_tables(size)
            self.assertEqual(len(found), count_low_tables(size))
            self.assertEqual([low_table(size, number) for number in range(len(found))], found)
            for number in (len(found), len(found) + 1, 10 ** 60 - 1):
                with self.assertRaises(TooGreat):
                    low_table(size, number)

    def test_examples(self):
        self.assertEqual([low_table(4, 0), low_table(4, 1)], [(P, ((), P), (P, P)), (P, Q, (P, P))])
        self.assertEqual(low_table(4, 1), TWO_TWO)
        self.assertEqual(low_table(2, 0), TWO)

    def test_great_ones(self):
        for size in (8, 16, 17, 31, 32, 40):
            last = count_low_tables(size) - 1
            for number in (0, 1, min(last, 10 ** 60 - 1)):
                table = low_table(size, number)
                self.assertTrue(is_table(table) and table_size(table) == size)
                rest = number
                for made in reversed(table):
                    m = size_of(made)
                    self.assertEqual(shape_height(made), least_height(m))
                    self.assertEqual(high_number(made, least_height(m)), rest % count_low(m))
                    rest = rest // count_low(m)
            if last < 10 ** 60:
                with self.assertRaises(TooGreat):
                    low_table(size, last + 1)


if __name__ == "__main__":
    unittest.main()

import random
import unittest

from lumpplans.errors import BadTable
from lumpplans.shapes import comb
from lumpplans.tables import check_table, entry, is_table, table_size
from tests.samples import NO_TUPLES, P, Q, TWO, L, R, drawn_shape, drawn_table, tables_of

SIZES = tuple(range(2, 13)) + (60,)


def with_member(table, k, value):
    """Return a table with the member k exchanged for a value."""
    return table[:k] + (value,) + table[k + 1:]


class TableFormTest(unittest.TestCase):
    def check_wrong(self, value, path):
        self.assertIs(is_table(value), False)
        with self.assertRaises(BadTable) as caught:
            check_table(value)
        self.assertEqual(caught.exception.path, path)

    def test_tables(self):
        for size in (2, 3, 4, 5):
            for table in tables_of(size):
                self.assertIs(is_table(table), True)
                self.assertIs(check_table(table), None)

    def test_each_size(self):
        draw = random.Random(1)
        for size in SIZES:
            table = drawn_table(draw, size)
            self.assertIs(is_table(table), True)
            self.assertIs(check_table(table), None)
            for side in ("left", "right"):
                self.assertIs(is_table(tuple(comb(m, side) for m in range(2, size + 1))), True)

    def test_no_tuples_and_no_members(self):
        for value in NO_TUPLES + ((), [], [P], list(L)):
            self.check_wrong(value, ())

    def test_shapes_that_are_no_tables(self):
        self.check_wrong(P, (0,))
        self.check_wrong(Q, (1,))
        self.check_wrong((P, P), (1,))

    def test_members_that_are_no_shapes(self):
        draw = random.Random(2)
        for size in SIZES:
            table = drawn_table(draw, size)
            for k in sorted({0, (size - 1) // 2, size - 2}):
                for value in NO_TUPLES:
                    self.check_wrong(with_member(table, k, value), (k,))
                    self.check_wrong(with_member(table, k, (value, ())), (k, 0))
                    self.check_wrong(with_member(table, k, (P, ((), value))), (k, 1, 1))
                self.check_wrong(with_member(table, k, [(), ()]), (k,))

    def test_members_of_wrong_sizes(self):
        draw = random.Random(3)
        for size in SIZES:
            table = drawn_table(draw, size)
            for k in sorted({0, (size - 1) // 2, size - 2}):
                for wrong in (k + 1, k + 3):
                    self.check_wrong(with_member(table, k, drawn_shape(draw, wrong)), (k,))
                self.check_wrong(with_member(table, k, ()), (k,))

    def test_all_entries_but_one_put_in(self):
        self.check_wrong((Q,), (0,))
        self.check_wrong(((), P, Q), (0,))
        self.check_wrong(L[1:], (0,))

    def test_the_first_one_counts(self):
        self.check_wrong((Q, Q, Q), (0,))
        self.check_wrong((P, P, P), (1,))
        self.check_wrong((P, None, 5), (1,))
        self.check_wrong((P, (0, 1), 5), (1, 0))

    def test_shapes_are_looked_for_ahead_of_sizes(self):
        self.check_wrong((Q, P, None), (2,))
        self.check_wrong(((), (), (P, [])), (2, 1))
        self.check_wrong((P, P, (P, (P, 0))), (2, 1, 1))

    def test_many_members(self):
        self.check_wrong(((),) * 20000, (0,))
        self.check_wrong((P,) + ((),) * 10000 + (None,), (10001,))


class EntryTest(unittest.TestCase):
    def test_examples(self):
        self.assertEqual(table_size(TWO), 2)
        self.assertEqual(table_size(L), 3)
        self.assertEqual([entry(L, m) for m in (1, 2, 3)], [(), P, (P, ())])
        self.assertEqual([entry(R, m) for m in (1, 2, 3)], [(), P, ((), P)])

    def test_each_size(self):
        draw = random.Random(4)
        for size in SIZES:
            table = drawn_table(draw, size)
            self.assertEqual(table_size(table), size)
            self.assertEqual(entry(table, 1), ())
            for m in range(2, size + 1):
                self.assertEqual(entry(table, m), table[m - 2])


if __name__ == "__main__":
    unittest.main()

import copy
import unittest

from lumpplans.cuts import behind, counter, cuts, is_cut, judge_counter
from lumpplans.errors import BadPlan, BadShape, BadTable
from lumpplans.gluing import glued
from lumpplans.lumps import all_lumps
from lumpplans.plans import Plan
from lumpplans.pressing import row_behind, shape
from lumpplans.primes import primes
from lumpplans.shapes import check_shape, is_shape, part_at
from lumpplans.tables import check_table, is_table
from lumpplans.words import is_number, is_word
from tests.samples import P, Q, TWO, L, R, TWO_TWO

VALUES = (
    [1, [2], {"a": [3]}], {"a": [1], (0, 1): {}}, (P, [1, [2]]), ([()], {"b": ()}), ("lump", [4], {}),
    [TWO, [P], {0: 1}], (TWO, [P]), ["size"],
)


class UnchangedTest(unittest.TestCase):
    def check_unchanged(self, call, value):
        before = copy.deepcopy(value)
        for _ in range(2):
            call(value)
            self.assertEqual(value, before)

    def test_what_may_be_anything(self):
        for value in VALUES:
            for call in (is_word, is_number, is_shape, is_table):
                self.check_unchanged(call, value)
            self.check_unchanged(lambda path: part_at(Q, path), value)
            self.check_unchanged(lambda b: is_cut(TWO_TWO, b), value)
            self.check_unchanged(lambda told: judge_counter(TWO_TWO, 3, told), value)

    def test_where_an_error_is_raised(self):
        for value in VALUES:
            for error, call in (
                    (BadShape, check_shape), (BadTable, check_table),
                    (BadPlan, lambda tables: Plan(tables, "left")), (BadPlan, lambda end: Plan((), end))):
                paths = []
                for _ in range(2):
                    before = copy.deepcopy(value)
                    with self.assertRaises(error) as caught:
                        call(value)
                    self.assertEqual(value, before)
                    paths.append(caught.exception.path)
                self.assertEqual(paths[0], paths[1])

    def test_lists_of_tables(self):
        self.check_unchanged(glued, [TWO, L, R])
        self.check_unchanged(lambda tables: Plan(tables, (L,)), [TWO, L, R])

    def test_plans_never_change(self):
        for end in ("left", "right", (TWO, R)):
            plan = Plan([TWO, L], end)
            for n in (1, 2, 7, 30):
                all_lumps(plan, n).clear()
                row_behind(plan, n, 1).clear()
                self.assertEqual(shape(plan, n), shape(Plan((TWO, L), end), n))
            self.assertEqual(plan, Plan((TWO, L), end))

    def test_tables_made_anew(self):
        again = tuple([((), ()), (((), ()), ()), (((), ()), ((), ()))])
        self.assertEqual(cuts(again), cuts(TWO_TWO))
        self.assertEqual(primes(again), primes(TWO_TWO))
        self.assertEqual(behind(again, 2), behind(TWO_TWO, 2))
        self.assertEqual(counter(again, 3), counter(TWO_TWO, 3))


if __name__ == "__main__":
    unittest.main()

import unittest

from lumpplans.gluing import is_shape_lump
from lumpplans.lumps import all_lumps
from lumpplans.plans import Plan
from lumpplans.pressing import shape
from lumpplans.shapes import comb
from tests import oracles
from tests.samples import TWO, L, TWO_TWO, check_new_list, with_few_calls
from tests.test_pressing import EXAMPLE, drawn_plans


class AllLumpsTest(unittest.TestCase):
    def test_example(self):
        self.assertEqual(all_lumps(EXAMPLE, 7), [
            (0, 7), (0, 6), (0, 4), (0, 2), (0, 1), (1, 2), (2, 4), (2, 3), (3, 4), (4, 6), (4, 5), (5, 6),
            (6, 7)])

    def test_each_end(self):
        self.assertEqual(all_lumps(Plan((), "left"), 4), [(0, 4), (0, 3), (0, 2), (0, 1), (1, 2), (2, 3), (3, 4)])
        self.assertEqual(all_lumps(Plan((), "right"), 4), [(0, 4), (0, 1), (1, 4), (1, 2), (2, 4), (2, 3), (3, 4)])
        self.assertEqual(
            all_lumps(Plan((), (TWO,)), 5), [(0, 5), (0, 4), (0, 2), (0, 1), (1, 2), (2, 4), (2, 3), (3, 4), (4, 5)])

    def test_one_lump(self):
        for plan in drawn_plans():
            self.assertEqual(all_lumps(plan, 1), [(0, 1)])

    def test_by_texts(self):
        for plan in drawn_plans():
            for n in (1, 2, 3, 5, 12, 31, 60, 61, 128, 200):
                found = all_lumps(plan, n)
                expected = oracles.ranges(oracles.plan_shape(plan, n))
                self.assertEqual(len(found), 2 * n - 1)
                self.assertEqual(found, sorted(expected, key=lambda lump: (lump[0], -lump[1])))

    def test_lumps_of_the_shape(self):
        for plan in drawn_plans():
            made = shape(plan, 13)
            found = all_lumps(plan, 13)
            for i in range(14):
                for j in range(14):
                    self.assertIs((i, j) in found, is_shape_lump(made, i, j))

    def test_up_to_two_hundred(self):
        deep = Plan((tuple(comb(m, "right") for m in range(2, 61)),), "left")
        for plan in (Plan((), "left"), Plan((), "right"), Plan((), (L, TWO_TWO)), deep):
            for n in range(1, 201):
                found = with_few_calls(lambda: all_lumps(plan, n))
                self.assertEqual(len(found), 2 * n - 1)
                self.assertEqual(len(set(found)), 2 * n - 1)
                self.assertEqual(found, sorted(found, key=lambda lump: (lump[0], -lump[1])))

    def test_new_lists(self):
        check_new_list(self, lambda: all_lumps(EXAMPLE, 7))
        for lump in all_lumps(EXAMPLE, 7):
            self.assertIs(type(lump), tuple)


if __name__ == "__main__":
    unittest.main()

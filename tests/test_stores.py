import random
import unittest

from lumpplans.digits import is_lump, lump_at, path_of
from lumpplans.errors import TooMany
from lumpplans.lasting import count_lasting, is_lasting
from lumpplans.plans import Plan
from lumpplans.shapes import comb
from lumpplans.stores import store
from tests.growing import Growth, growing_plans
from tests.samples import TWO, L, check_new_list, drawn_table, with_few_calls
from tests.test_digits import great_plans

GREAT = 10 ** 30
ROUND = Plan((), (TWO,))


class ExamplesTest(unittest.TestCase):
    def test_round(self):
        self.assertEqual(store(ROUND, 7), [(0, 4), (4, 6), (6, 7)])

    def test_ends(self):
        for n in (1, 2, 3, 17, 200):
            self.assertEqual(store(Plan((), "left"), n), [(0, n)])
            self.assertEqual(store(Plan((), "right"), n), [(k, k + 1) for k in range(n)])


class PressedRowsTest(unittest.TestCase):
    def test_greatest_lasting_lumps(self):
        for plan in growing_plans(24):
            growth = Growth(plan, 14)
            for n in range(1, 15):
                self.assertEqual(store(plan, n), growth.store(n))

    def check(self, plan, n):
        """Check that the store shares out the row, and has lumps that last and are within no such lump."""
        found = store(plan, n)
        self.assertEqual([0] + [j for _, j in found], [i for i, _ in found] + [n])
        for i, j in found:
            self.assertIs(is_lasting(plan, n, i, j), True)
            for later in (n + 1, n + 2, 2 * n, 10 * n + 7):
                self.assertIs(is_lump(plan, later, i, j), True)
                self.assertIs(is_lasting(plan, later, i, j), True)
            if (i, j) != (0, n):
                above = lump_at(plan, n, path_of(plan, n, i, j)[:-1])
                self.assertIs(is_lasting(plan, n, *above), False, (n, i, j, above))
        self.assertEqual(count_lasting(plan, n), n - len(found))

    def test_long_rows(self):
        draw = random.Random(120)
        for plan in growing_plans():
            for n in [draw.randint(15, 199) for _ in range(4)] + [1, 2, 200]:
                self.check(plan, n)

    def test_great_rows(self):
        draw = random.Random(121)
        for one, other in great_plans():
            for n in (GREAT, GREAT - 1, 2 ** 99, draw.randrange(1, GREAT), draw.randrange(1, 5000)):
                if one.end() == "right" and n > 5000:
                    with self.assertRaises(TooMany):
                        store(one, n)
                else:
                    self.assertEqual(store(one, n), store(other, n))
                    if one.end() != "left" or n < 400:
                        self.check(one, n)

    def test_great_round(self):
        self.assertEqual(store(ROUND, 2 ** 99), [(0, 2 ** 99)])
        n = 2 ** 99 - 1
        self.assertEqual(store(ROUND, n), [(n + 1 - 2 ** k, n + 1 - 2 ** k // 2) for k in range(99, 0, -1)])
        self.assertEqual(store(Plan((TWO,), "left"), GREAT + 1), [(0, GREAT), (GREAT, GREAT + 1)])

    def test_kinds_and_new_lists(self):
        check_new_list(self, lambda: store(ROUND, 7))
        for lump in store(ROUND, 7):
            self.assertIs(type(lump), tuple)

    def test_few_calls(self):
        draw = random.Random(122)
        deep = tuple(comb(m, "right") for m in range(2, 61))
        for plan in (Plan((), (TWO,)), Plan((), (deep, L)), Plan((drawn_table(draw, 60),) * 6, "left")):
            for n in (199, GREAT, 60 ** 6 * 7 - 1):
                with_few_calls(lambda: store(plan, n))


class TooManyTest(unittest.TestCase):
    def check(self, plan, n, more):
        """Check that there are 400 lumps at n, and that at more there are too many."""
        self.assertEqual(len(store(plan, n)), 400)
        with self.assertRaises(TooMany):
            store(plan, more)

    def test_right(self):
        self.check(Plan((), "right"), 400, 401)
        self.check(Plan((TWO,), "right"), 799, 801)
        self.check(Plan((TWO,), "right"), 800, 801)
        for plan in (Plan((), "right"), Plan((L,), "right"), Plan((TWO,) * 6, "right")):
            with self.assertRaises(TooMany):
                store(plan, GREAT)

    def test_round(self):
        # No lump of a right comb lasts until its stretch is full, so each stage adds all that it has.
        plan = Plan((), (tuple(comb(m, "right") for m in range(2, 61)),))
        for many in range(1, 7):
            self.assertEqual(len(store(plan, 60 ** many - 1)), many * 59)
        # 46 lumps are full behind six stages, and of each of these 59 lumps are.
        self.check(plan, 60 ** 6 * 47 - 1, 60 ** 6 * 48 - 1)
        self.check(plan, 60 ** 6 * 47 - 1, 60 ** 17 - 1)


if __name__ == "__main__":
    unittest.main()

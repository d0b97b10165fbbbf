import unittest

from lumpplans.errors import BadPlan
from lumpplans.plans import Plan
from tests.samples import NO_TUPLES, P, Q, TWO, L, R, TWO_TWO

ENDS = ("left", "right", (TWO,), (L, R, TWO_TWO))


class PlanFormTest(unittest.TestCase):
    def check_wrong(self, tables, end, path):
        with self.assertRaises(BadPlan) as caught:
            Plan(tables, end)
        self.assertEqual(caught.exception.path, path)

    def test_each_end(self):
        for end in ENDS:
            for tables in ((), (TWO,), (L, R, TWO, L, TWO_TWO, R)):
                plan = Plan(tables, end)
                self.assertEqual(plan.tables(), tables)
                self.assertEqual(plan.end(), end)
                self.assertIs(type(plan.tables()), tuple)
                self.assertIs(type(plan.end()), type(end))

    def test_tables_of_the_wrong_kind(self):
        for tables in NO_TUPLES:
            if not isinstance(tables, list):
                for end in ENDS + (None, ()):
                    self.check_wrong(tables, end, (0,))

    def test_wrong_tables(self):
        for make in (tuple, list):
            for value in NO_TUPLES + ((),):
                for end in ENDS:
                    self.check_wrong(make([value]), end, (0, 0))
                    self.check_wrong(make([TWO, L, value, value]), end, (0, 2))
            self.check_wrong(make([TWO, (P, (0, ()))]), "left", (0, 1, 1, 0))
            self.check_wrong(make([TWO, (P, P)]), "left", (0, 1, 1))
            self.check_wrong(make([(Q,), (5,)]), "left", (0, 0, 0))
            self.check_wrong(make([(P, P, None)]), "left", (0, 0, 2))

    def test_wrong_ends(self):
        for tables in ((), [TWO, L]):
            for end in NO_TUPLES + ((), [TWO], [], "round", "Left", "left ", "righ"):
                if end != "left":
                    self.check_wrong(tables, end, (1,))

    def test_wrong_tables_of_the_round(self):
        for tables in ((), [TWO, L]):
            for value in NO_TUPLES + ((),):
                self.check_wrong(tables, (value,), (1, 0))
                self.check_wrong(tables, (TWO, R, value, value), (1, 2))
            self.check_wrong(tables, (TWO, (P, (0, ()))), (1, 1, 1, 0))
            self.check_wrong(tables, (TWO, (P, P)), (1, 1, 1))
            self.check_wrong(tables, ("left",), (1, 0))

    def test_tables_ahead_of_the_end(self):
        self.check_wrong([TWO, (P, 5)], None, (0, 1, 1))
        self.check_wrong([TWO, (P, P)], (None,), (0, 1, 1))
        self.check_wrong(None, None, (0,))

    def test_a_list_of_tables_is_not_kept(self):
        tables = [TWO, L]
        plan = Plan(tables, "left")
        self.assertEqual(tables, [TWO, L])
        tables.append(R)
        tables[0] = None
        self.assertEqual(plan.tables(), (TWO, L))
        self.assertIs(type(plan.tables()), tuple)
        self.assertEqual(plan, Plan((TWO, L), "left"))


class StageTest(unittest.TestCase):
    def test_without_a_round(self):
        for end in ("left", "right"):
            plan = Plan([TWO, L, R], end)
            self.assertEqual([plan.stage(k) for k in range(5)], [TWO, L, R, None, None])
            self.assertIs(plan.stage(10 ** 30), None)
            self.assertIs(Plan((), end).stage(0), None)

    def test_with_a_round(self):
        plan = Plan((TWO,), (L, R))
        self.assertEqual([plan.stage(k) for k in range(6)], [TWO, L, R, L, R, L])
        self.assertEqual(plan.stage(10 ** 30), R)
        self.assertEqual(plan.stage(10 ** 30 - 1), L)
        plan = Plan([], (TWO, L, R))
        self.assertEqual([plan.stage(k) for k in range(7)], [TWO, L, R, TWO, L, R, TWO])
        self.assertEqual(plan.stage(3 * 10 ** 30 + 2), R)
        self.assertEqual(Plan([L, R], (TWO,)).stage(10 ** 30), TWO)


class EqualTest(unittest.TestCase):
    def test_equal_plans(self):
        for end in ENDS:
            self.assertIs(Plan([TWO, L], end) == Plan((TWO, L), end), True)
            self.assertIs(Plan([], end) == Plan((), end), True)
            self.assertIs(Plan([], end) != Plan((), end), False)

    def test_unlike_plans(self):
        plans = [Plan(tables, end) for end in ENDS for tables in ((), (TWO,), (L,), (TWO, L), (L, TWO))]
        for i, one in enumerate(plans):
            for j, other in enumerate(plans):
                self.assertIs(one == other, i == j)
                self.assertIs(one != other, i != j)

    def test_plans_that_tell_the_same(self):
        self.assertIs(Plan((TWO_TWO,), "left") == Plan((TWO, TWO), "left"), False)
        self.assertIs(Plan((), (TWO,)) == Plan((TWO,), (TWO,)), False)
        self.assertIs(Plan((), (TWO,)) == Plan((), (TWO, TWO)), False)
        self.assertIs(Plan((), (TWO,)) == Plan((), (TWO_TWO,)), False)

    def test_with_what_is_no_plan(self):
        plan = Plan((TWO,), "left")
        for value in NO_TUPLES[:-1] + ((), ((TWO,), "left"), (TWO,), "left", P):
            self.assertIs(plan == value, False)
            self.assertIs(value == plan, False)


if __name__ == "__main__":
    unittest.main()

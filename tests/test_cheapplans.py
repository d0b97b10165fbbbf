import random
import unittest

from lumpplans.cheapplans import cheapest_plan, fits_shapes, least_cost, plan_cost
from lumpplans.errors import Unlike
from lumpplans.gluing import glue
from lumpplans.plans import Plan
from lumpplans.pressing import shape
from lumpplans.readback import entries_told
from lumpplans.shapes import comb
from tests.samples import (
    P, Q, TWO, L, R, PRIME_SIX, TWO_L, TWO_TWO, drawn_plan, drawn_shape, drawn_table, shapes_of, with_few_calls,
)
from tests.test_readback import ENDS, other_shape, plans_of
from tests.test_seencuts import lists, shapes_up_to


def sums(most):
    """Return all lists of numbers of at least 2 that together are at most as great as most."""
    found = [[]] if most >= 0 else []
    for first in range(2, most + 1):
        found.extend([first] + rest for rest in sums(most - first))
    return found


def fits_some(shapes, sizes, end):
    """Return whether some plan of these sizes has the shapes of a list, by what they tell."""
    try:
        entries_told(sizes, end, list(enumerate(shapes, start=1)))
    except Unlike:
        return False
    return True


class CostTest(unittest.TestCase):
    def test_plan_cost(self):
        for end in ENDS:
            for tables, cost in (((), 0), ((TWO,), 2), ((L, R), 6), ((TWO_L, TWO, TWO_TWO), 12)):
                self.assertEqual(plan_cost(Plan(tables, end)), cost)

    def test_fits_shapes(self):
        draw = random.Random(200)
        for plan in [drawn_plan(draw, 4) for _ in range(20)]:
            shapes = shapes_up_to(plan, 14)
            for most in (0, 1, 2, 7, 14):
                self.assertIs(fits_shapes(plan, shapes[:most]), True)
                self.assertIs(fits_shapes(plan, tuple(shapes[:most])), True)
            for k in (2, 7, 13):
                # Also where the shapes differ at the last number alone.
                for other in [made for made in (comb(k + 1, "left"), comb(k + 1, "right")) if made != shapes[k]]:
                    self.assertIs(fits_shapes(plan, shapes[:k] + [other]), False)
                    self.assertIs(fits_shapes(plan, shapes[:k] + [other] + shapes[k + 1:]), False)
        self.assertIs(fits_shapes(Plan((), (TWO,)), []), True)
        self.assertIs(fits_shapes(Plan((), (TWO,)), [(), P, (P, ()), (P, P)]), True)
        self.assertIs(fits_shapes(Plan((), "left"), [(), P, (P, ()), (P, P)]), False)


class CheapestPlanTest(unittest.TestCase):
    def check(self, shapes):
        """Check that a plan has the shapes of a list, and that no cheaper one has; return it."""
        plan = cheapest_plan(shapes)
        self.assertIs(type(plan), Plan)
        self.assertIn(plan.end(), ENDS)
        for n, made in enumerate(shapes, start=1):
            self.assertEqual(shape(plan, n), made)
        cost = sum(len(table) + 1 for table in plan.tables())
        self.assertEqual(least_cost(shapes), cost)
        self.assertEqual(plan_cost(plan), cost)
        self.assertIs(fits_shapes(plan, shapes), True)
        for sizes in sums(cost - 1):
            for end in ENDS:
                self.assertIs(fits_some(shapes, sizes, end), False, (sizes, end))
        self.assertEqual(cheapest_plan(tuple(shapes)), plan)
        return plan

    def test_all_plans(self):
        """Of short lists all cheaper plans are gone through."""
        cheaper = [plan for sizes in sums(4) for end in ENDS for plan in plans_of(sizes, end)]
        draw = random.Random(201)
        found = [[()], [(), P]] + [[(), P, made] for made in shapes_of(3)]
        found += [[(), P, one, other] for one in shapes_of(3) for other in shapes_of(4)]
        found += [[(), P, draw.choice(shapes_of(3)), draw.choice(shapes_of(4)), made] for made in shapes_of(5)]
        costs = set()
        for shapes in found:
            plan = self.check(shapes)
            costs.add(plan_cost(plan))
            fitting = [plan_cost(other) for other in cheaper if fits_shapes(other, shapes)]
            self.assertEqual(min(fitting, default=5), plan_cost(plan))
        self.assertEqual(costs, {0, 2, 3, 4, 5})

    def test_drawn_lists(self):
        for shapes in lists(12):
            self.check(shapes)

    def test_combs(self):
        for end in ENDS:
            for most in (1, 2, 3, 40):
                shapes = [comb(n, end) for n in range(1, most + 1)]
                plan = self.check(shapes)
                self.assertEqual(plan.tables(), ())
                self.assertEqual(least_cost(shapes), 0)
                if most > 2:
                    self.assertEqual(plan.end(), end)
            # A list that is a comb's but for its last shape, or but for one.
            for most in (4, 9):
                shapes = [comb(n, end) for n in range(1, most)] + [(comb(2, end), comb(most - 2, end))]
                self.assertGreater(plan_cost(self.check(shapes)), 0)

    def test_several_tables(self):
        several = 0
        draw = random.Random(202)
        for sizes in ([2, 3], [3, 3], [4, 2], [2, 2, 2], [5, 2], [3, 2, 2], [2, 4]):
            for end in ENDS:
                plan = Plan([drawn_table(draw, size) for size in sizes], end)
                most = 40
                shapes = shapes_up_to(plan, most)
                found = self.check(shapes)
                self.assertLessEqual(plan_cost(found), plan_cost(plan))
                several += len(found.tables()) > 1
        self.assertGreater(several, 8)

    def test_glued_tables_are_told_by_cheaper_ones(self):
        plan = Plan((glue(L, glue(R, L)),), "right")
        shapes = shapes_up_to(plan, 40)
        self.assertEqual(least_cost(shapes), 9)
        self.assertEqual(cheapest_plan(shapes).tables(), (L, R, L))

    def test_rounds(self):
        for table in (TWO, L, R, PRIME_SIX):
            shapes = shapes_up_to(Plan((), (table,)), 17)
            self.check(shapes)
        self.assertEqual(least_cost(shapes_up_to(Plan((), (TWO,)), 40)), 8)

    def test_drawn_shapes(self):
        draw = random.Random(203)
        for most in (5, 6, 9):
            for _ in range(5):
                self.check([drawn_shape(draw, m) for m in range(1, most + 1)])
        shapes = [drawn_shape(draw, m) for m in range(1, 41)]
        plan = with_few_calls(lambda: cheapest_plan(shapes))
        self.assertIs(fits_shapes(plan, shapes), True)

    def test_one_shape_otherwise(self):
        draw = random.Random(204)
        for plan in (Plan((TWO, L), "left"), Plan((R, TWO), "right"), Plan((), (TWO,))):
            shapes = shapes_up_to(plan, 14)
            for k in (2, 5, 8, 12, 13):
                self.check(shapes[:k] + [other_shape(draw, shapes[k])] + shapes[k + 1:])

    def test_lists(self):
        shapes = [(), P, Q, (Q, ()), (P, Q)]
        before = list(shapes)
        self.assertEqual(cheapest_plan(shapes), cheapest_plan(before))
        least_cost(shapes)
        fits_shapes(Plan((), "left"), shapes)
        self.assertEqual(shapes, before)

    def test_few_calls(self):
        for plan in (Plan((), "left"), Plan((TWO, TWO_TWO), "right"), Plan((), (TWO,)), Plan((L, R, TWO), "left")):
            shapes = shapes_up_to(plan, 40)
            found = with_few_calls(lambda: cheapest_plan(shapes))
            self.assertIs(with_few_calls(lambda: fits_shapes(found, shapes)), True)


if __name__ == "__main__":
    unittest.main()

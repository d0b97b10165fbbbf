import random
import unittest

from lumpplans.parting import least_parting
from lumpplans.partings import group_numbers, groups, nearest, parting_table
from lumpplans.plans import Plan
from lumpplans.tables import table_size
from tests import oracles
from tests.samples import TWO, L, R, TWO_TWO, TWO_L, check_new_list, drawn_plan, drawn_table, near_plans, told_otherwise

BOUND = 60


def plan_lists():
    """Return lists of 1 to 12 plans, with near and alike ones, and the same plan twice."""
    draw = random.Random(60)
    found = []
    for many in range(1, 13):
        plans = []
        while len(plans) < many:
            plan = drawn_plan(draw, 3)
            plans.append(plan)
            plans.extend(near_plans(draw, plan)[:3])
            plans.extend(told_otherwise(draw, plan)[:2])
            plans.append(plan)
        draw.shuffle(plans)
        found.append(plans[:many])
    found.append([Plan((), "left")] * 3)
    found.append([Plan((), "left"), Plan((), "right"), Plan((), (TWO,)), Plan((), (TWO_TWO,))])
    return found


class TableTest(unittest.TestCase):
    def test_by_pairs(self):
        for plans in plan_lists():
            table = parting_table(plans)
            self.assertIs(type(table), list)
            self.assertEqual(table, [[least_parting(one, other) for other in plans] for one in plans])
            for k, row in enumerate(table):
                self.assertIs(type(row), list)
                self.assertIs(row[k], None)

    def test_example(self):
        plans = [Plan((TWO,), "left"), Plan((), (TWO,)), Plan((TWO,), "left"), Plan((), (TWO, TWO))]
        self.assertEqual(parting_table(plans), [
            [None, 7, None, 7], [7, None, 7, None], [None, 7, None, 7], [7, None, 7, None]])
        self.assertEqual(parting_table(plans[:1]), [[None]])

    def test_two_least_of_three_are_equal(self):
        for plans in plan_lists():
            table = parting_table(plans)
            for i in range(len(plans)):
                for j in range(i):
                    for k in range(j):
                        three = sorted(float("inf") if n is None else n for n in (table[i][j], table[j][k], table[i][k]))
                        self.assertEqual(three[0], three[1])

    def test_a_tuple_of_plans(self):
        plans = plan_lists()[6]
        self.assertEqual(parting_table(tuple(plans)), parting_table(plans))
        self.assertEqual(groups(tuple(plans), 9), groups(plans, 9))
        self.assertEqual(group_numbers(tuple(plans)), group_numbers(plans))
        self.assertEqual(nearest(plans[0], tuple(plans)), nearest(plans[0], plans))

    def test_twelve_great_plans(self):
        draw = random.Random(61)
        tables = [drawn_table(draw, 12) for _ in range(6)]
        plans = [Plan(tables[:k % 7], tuple(tables[k // 2:]) or "left") for k in range(12)]
        table = parting_table(plans)
        for i in range(12):
            for j in range(12):
                self.assertEqual(table[i][j], least_parting(plans[i], plans[j]))
        self.assertEqual(table_size(tables[0]), 12)

    def test_new_lists(self):
        check_new_list(self, lambda: parting_table([Plan((), "left"), Plan((), "right")]))
        table = parting_table([Plan((), "left")] * 2)
        self.assertIsNot(table[0], table[1])


class GroupsTest(unittest.TestCase):
    def groups_by_pressing(self, plans, n):
        found = {}
        for k, plan in enumerate(plans):
            found.setdefault(tuple(oracles.plan_shape(plan, m) for m in range(1, n + 1)), []).append(k)
        return list(found.values())

    def test_by_pressing(self):
        for plans in plan_lists():
            for n in (1, 2, 3, 4, 5, 7, 12, 25):
                found = groups(plans, n)
                self.assertEqual(found, self.groups_by_pressing(plans, n))
                self.assertEqual(sorted(k for group in found for k in group), list(range(len(plans))))

    def test_up_to_one_and_two(self):
        for plans in plan_lists():
            self.assertEqual(groups(plans, 1), [list(range(len(plans)))])
            self.assertEqual(groups(plans, 2), [list(range(len(plans)))])

    def test_at_the_parting_itself(self):
        plans = [Plan((), (TWO,)), Plan((TWO,), "left"), Plan((), (TWO_TWO,)), Plan((), "right")]
        self.assertEqual(groups(plans, 6), [[0, 1, 2], [3]])
        self.assertEqual(groups(plans, 7), [[0, 2], [1], [3]])
        self.assertEqual(groups(plans, 10 ** 40), [[0, 2], [1], [3]])
        self.assertEqual(groups([plans[3], plans[0], plans[2]], 3), [[0], [1, 2]])

    def test_numbers(self):
        for plans in plan_lists():
            found = group_numbers(plans)
            self.assertEqual(found, sorted(set(found)))
            expected = [
                n for n in range(2, BOUND) if len(groups(plans, n)) > len(groups(plans, n - 1))]
            self.assertEqual([n for n in found if n < BOUND], expected)
            for n in found:
                self.assertGreater(len(groups(plans, n)), len(groups(plans, n - 1)))
            last = found[-1] if found else 1
            self.assertEqual(groups(plans, last), groups(plans, 10 ** 60))

    def test_numbers_of_few(self):
        self.assertEqual(group_numbers([Plan((), "left")]), [])
        self.assertEqual(group_numbers([Plan((), "left")] * 5), [])
        self.assertEqual(group_numbers([Plan((), (TWO,)), Plan((TWO,), "left"), Plan((), "right")]), [3, 7])

    def test_new_lists(self):
        plans = [Plan((), "left"), Plan((), "right"), Plan((), "left")]
        check_new_list(self, lambda: groups(plans, 3))
        check_new_list(self, lambda: group_numbers(plans))


class NearestTest(unittest.TestCase):
    def test_by_partings(self):
        for plans in plan_lists():
            for plan in plans[:3] + [Plan((TWO, R), (L,))]:
                later = [least_parting(plan, other) for other in plans]
                never = max([n for n in later if n is not None], default=0) + 1
                ranks = [never if n is None else n for n in later]
                self.assertEqual(nearest(plan, plans), ranks.index(max(ranks)))

    def test_several_as_near(self):
        plan = Plan((TWO,), "left")
        round_of_two = Plan((), (TWO,))
        far = Plan((R,), "left")
        self.assertEqual(nearest(plan, [far, round_of_two, Plan((), (TWO_TWO,)), far]), 1)
        self.assertEqual(nearest(plan, [far, far, far]), 0)
        self.assertEqual(nearest(plan, [far]), 0)

    def test_alike_ones(self):
        plan = Plan((), (TWO,))
        self.assertEqual(nearest(plan, [Plan((TWO,), "left"), Plan((TWO,), (TWO_TWO,)), plan]), 1)
        self.assertEqual(nearest(plan, [Plan((TWO_L,), "left"), plan, plan]), 1)


if __name__ == "__main__":
    unittest.main()

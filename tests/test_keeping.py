import random
import unittest

from lumpplans.errors import BadPlace
from lumpplans.gluing import glue
from lumpplans.keeping import change_cost, kept_lumps, switch
from lumpplans.lasting import lasting
from lumpplans.plans import Plan
from tests.growing import Growth, growing_plans, parts_at
from tests.samples import TWO, L, R, TWO_TWO, check_new_list, near_plans, told_otherwise, with_few_calls
from tests.test_digits import NO_PLACES

ROUND = Plan((), (TWO,))
LEFT = Plan((), "left")


def kept_parts(plan, n):
    """Return the dict of the kept lumps with the texts of their parts."""
    if n == 0:
        return {}
    parts = parts_at(plan, n)
    return {(i, j): parts[(i, j)] for i, j in lasting(plan, n) if j - i > 1}


class KeptLumpsTest(unittest.TestCase):
    def test_examples(self):
        self.assertEqual(kept_lumps(ROUND, 7), [(0, 4), (0, 2), (2, 4), (4, 6)])
        self.assertEqual(kept_lumps(ROUND, 8), [(0, 8), (0, 4), (0, 2), (2, 4), (4, 8), (4, 6), (6, 8)])
        self.assertEqual(kept_lumps(LEFT, 8), [(0, j) for j in range(8, 1, -1)])

    def test_pressed_rows(self):
        for plan in growing_plans():
            growth = Growth(plan, 12)
            for n in range(1, 13):
                self.assertEqual(kept_lumps(plan, n), [(i, j) for i, j in growth.lasting(n) if j - i > 1])

    def test_few_and_many_lumps(self):
        for plan in growing_plans():
            self.assertEqual(kept_lumps(plan, 0), [])
            self.assertEqual(kept_lumps(plan, 1), [])
            found = with_few_calls(lambda: kept_lumps(plan, 200))
            self.assertEqual(found, [(i, j) for i, j in lasting(plan, 200) if j - i > 1])
        self.assertEqual(len(kept_lumps(LEFT, 200)), 199)

    def test_new_lists(self):
        check_new_list(self, lambda: kept_lumps(ROUND, 7))
        check_new_list(self, lambda: kept_lumps(ROUND, 0))


class SwitchTest(unittest.TestCase):
    def check(self, plan, other, n):
        before = kept_parts(plan, n)
        after = kept_parts(other, n)
        same = [lump for lump in before if after.get(lump) == before[lump]]
        found = switch(plan, other, n)
        self.assertEqual(found, (len(after) - len(same), len(before) - len(same)))
        self.assertIs(type(found), tuple)
        return found

    def test_example(self):
        self.assertEqual(self.check(ROUND, LEFT, 8), (6, 6))
        self.assertEqual(self.check(LEFT, ROUND, 8), (6, 6))
        self.assertEqual(self.check(ROUND, Plan((), "right"), 8), (0, 7))
        self.assertEqual(self.check(Plan((), "right"), ROUND, 8), (7, 0))

    def test_unlike_plans(self):
        draw = random.Random(210)
        for plan in growing_plans():
            for other in near_plans(draw, plan) + [ROUND, LEFT, draw.choice(growing_plans())]:
                for n in (0, 1, 2, 3, draw.randint(4, 20), draw.randint(20, 60)):
                    self.check(plan, other, n)
                    self.check(other, plan, n)

    def test_plans_that_tell_the_same(self):
        draw = random.Random(211)
        for plan in growing_plans():
            for other in told_otherwise(draw, plan) + [plan, Plan(plan.tables(), plan.end())]:
                for n in (0, 1, 2, 7, draw.randint(8, 200), 200):
                    self.assertEqual(switch(plan, other, n), (0, 0))

    def test_the_same_lump_with_another_part(self):
        # Both keep (0, 3), (0, 2) or (1, 3) within, and (3, 6) likewise.
        self.assertEqual(self.check(Plan((L,), "right"), Plan((R,), "right"), 6), (4, 4))
        one = glue(L, TWO)
        other = glue(R, TWO)
        self.assertEqual(self.check(Plan((one,), "right"), Plan((other,), "right"), 6), (5, 5))
        self.assertEqual(self.check(Plan((TWO_TWO,), "right"), Plan((TWO,), "right"), 7), (0, 1))

    def test_great_rows(self):
        for plan in (ROUND, LEFT, Plan((), "right"), Plan((L, R), "left"), Plan((R,), (L, TWO))):
            for other in (LEFT, Plan((TWO,), "left"), plan):
                cost, loss = with_few_calls(lambda: switch(plan, other, 200))
                self.assertEqual(len(kept_lumps(plan, 200)) + cost - loss, len(kept_lumps(other, 200)))
                if len(plan.tables()) == 0 and isinstance(plan.end(), str):
                    self.check(plan, other, 200)


class ChangeCostTest(unittest.TestCase):
    def test_example(self):
        self.assertEqual(change_cost(ROUND, 8, 5), 3)

    def test_all_places(self):
        for plan in growing_plans(8):
            for n in (1, 2, 7, 25, 200):
                lumps = kept_lumps(plan, n)
                for place in range(n):
                    self.assertEqual(change_cost(plan, n, place), sum(i <= place < j for i, j in lumps))

    def test_what_is_no_place(self):
        for plan in (ROUND, LEFT):
            for n in (0, 1, 7, 200):
                for value in NO_PLACES + (n, n + 1, 10 ** 40, [[0]]):
                    with self.assertRaises(BadPlace) as caught:
                        change_cost(plan, n, value)
                    self.assertIs(caught.exception.number, value)


if __name__ == "__main__":
    unittest.main()

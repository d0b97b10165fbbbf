import random
import unittest

from lumpplans.digits import depth
from lumpplans.gluing import glue, glued
from lumpplans.heights import (
    deepest, height, height_paper, is_least_high, judge_height_paper, last_depths, least_height,
)
from lumpplans.lowcounts import count_low_tables, low_table
from lumpplans.plainforms import plain
from lumpplans.plans import Plan
from lumpplans.shapes import comb, shape_height
from tests import oracles
from tests.samples import (
    NO_TUPLES, P, Q, TWO, L, R, TWO_TWO, TWO_L, drawn_plan, drawn_table, depths_of, with_few_calls,
)
from tests.test_digits import great_plans
from tests.test_pressing import EXAMPLE

GREAT = 10 ** 30
FOUR = (P, ((), P), (P, P))
TOO_HIGH = (P, Q, (Q, ()))


def plans():
    """Return plans with each kind of end, with and without tables."""
    draw = random.Random(90)
    return [drawn_plan(draw) for _ in range(30)] + [
        Plan((), "left"), Plan((), "right"), Plan((), (TWO,)), Plan((), (L, R, TWO)), EXAMPLE,
        Plan((TWO_L,), "right"), Plan((TWO, R), "left"), Plan((drawn_table(draw, 20),), (TWO_TWO,)),
    ]


def uneven_table(draw, size):
    """Return a table whose last entry is low, and those just ahead of it are high."""
    low = low_table(size, draw.randrange(count_low_tables(size)))
    high = tuple(comb(m, draw.choice(("left", "right"))) for m in range(2, size))
    return high + low[-1:]


def uneven_plans():
    """Return plans of which the last stretches may be higher than the full ones."""
    draw = random.Random(98)
    found = []
    for end in ("left", "right", None):
        for sizes in ((7,), (8, 2), (6, 8), (2, 9, 7)):
            tables = [uneven_table(draw, size) if size > 2 else TWO for size in sizes]
            found.append(Plan(tables, end or (uneven_table(draw, 8), R)))
    return found


def least_high_plans():
    draw = random.Random(91)
    found = [Plan((), (TWO,)), Plan((), (FOUR,)), Plan((TWO,), (TWO_TWO,)), Plan((FOUR, TWO), (TWO, FOUR))]
    for _ in range(8):
        eight = low_table(8, draw.randrange(count_low_tables(8)))
        four = low_table(4, draw.randrange(count_low_tables(4)))
        found.append(Plan((eight,), (four, eight, TWO)))
        found.append(Plan((glue(four, eight), TWO), (glue(eight, TWO),)))
    return found


def other_plans():
    """Return plans that are not least-high, some of them nearly."""
    draw = random.Random(92)
    found = [plan for plan in plans() if isinstance(plan.end(), str)]
    for plan in least_high_plans():
        found.append(Plan(plan.tables(), "left"))
        found.append(Plan(plan.tables() + plan.end(), "right"))
        for table in (L, R, TOO_HIGH, TWO_L, glue(R, TWO), drawn_table(draw, 5), drawn_table(draw, 7)):
            found.append(Plan(plan.tables() + (table,), plan.end()))
            found.append(Plan(plan.tables(), plan.end() + (table,)))
            found.append(Plan((glue(TWO, table),) + plan.tables(), plan.end()))
    for size in (3, 5, 6, 7, 9, 11, 12):
        low = low_table(size, draw.randrange(count_low_tables(size)))
        found.append(Plan((), (low,)))
        found.append(Plan((FOUR,) * 6, (TWO, low)))
    return found


class ExamplesTest(unittest.TestCase):
    def test_least_high(self):
        self.assertIs(is_least_high(Plan((), (TWO,))), True)
        self.assertIs(is_least_high(Plan((), (FOUR,))), True)
        self.assertIs(is_least_high(Plan((), (L,))), False)

    def test_round_of_l(self):
        plan = Plan((), (L,))
        self.assertEqual([height(plan, n) for n in (3, 9, 4)], [2, 4, 3])
        self.assertEqual([least_height(n) for n in (3, 9, 4)], [2, 4, 2])
        self.assertIs(judge_height_paper(plan, 4), True)
        self.assertIs(judge_height_paper(plan, 3), False)
        self.assertIs(judge_height_paper(plan, 9), False)

    def test_example_at_a_great_number(self):
        self.assertEqual(height(EXAMPLE, 10 ** 20), 5 * 10 ** 19)


class HeightTest(unittest.TestCase):
    def test_by_shapes(self):
        for plan in plans() + uneven_plans():
            for n in list(range(1, 66)) + [100, 111, 127, 200]:
                depths = depths_of(oracles.plan_shape(plan, n))
                ahead = max(depths[:-1], default=0)
                self.assertEqual(last_depths(plan, n), (depths[-1], ahead))
                self.assertIs(type(last_depths(plan, n)), tuple)
                self.assertEqual(height(plan, n), max(depths))
                self.assertEqual(depths[deepest(plan, n)], max(depths))

    def test_one_lump(self):
        for plan in plans():
            self.assertEqual((height(plan, 1), last_depths(plan, 1), deepest(plan, 1)), (0, (0, 0), 0))

    def test_great_combs(self):
        self.assertEqual(last_depths(Plan((), "left"), GREAT), (1, GREAT - 1))
        self.assertEqual(last_depths(Plan((), "right"), GREAT), (GREAT - 1, GREAT - 1))
        self.assertEqual(last_depths(Plan((TWO,), "left"), GREAT + 1), (1, GREAT // 2 + 1))
        self.assertEqual(last_depths(Plan((TWO,), "right"), GREAT + 1), (GREAT // 2, GREAT // 2 + 1))
        self.assertEqual(height(Plan((), (TWO,)), 2 ** 99), 99)
        self.assertEqual(last_depths(Plan((), (TWO,)), 2 ** 99 + 1), (1, 100))

    def test_great_numbers(self):
        draw = random.Random(93)
        for one, other in great_plans():
            for n in (GREAT, GREAT - 1, 2 ** 99, 2 ** 99 + 1, draw.randrange(1, GREAT)):
                self.assertEqual(last_depths(one, n), last_depths(other, n))
                self.assertEqual(last_depths(one, n)[0], depth(one, n, n - 1))
                self.assertEqual(height(one, n), max(last_depths(one, n)))
                for plan in (one, other):
                    place = deepest(plan, n)
                    self.assertTrue(0 <= place < n)
                    self.assertEqual(depth(plan, n, place), height(plan, n))
                for _ in range(20):
                    self.assertLessEqual(depth(one, n, draw.randrange(n)), height(one, n))
                    self.assertLessEqual(depth(one, n, n - 1 - draw.randrange(100)), height(one, n))

    def test_few_calls(self):
        deep = tuple(comb(m, "left") for m in range(2, 61))
        for plan in (Plan((), (TWO,)), Plan((deep,), "left"), Plan((), (deep, TWO)), Plan((TWO,), "right")):
            with_few_calls(lambda: height(plan, GREAT))
            with_few_calls(lambda: deepest(plan, GREAT))
            with_few_calls(lambda: height_paper(plan))


class LeastHeightTest(unittest.TestCase):
    def test_by_counting(self):
        for n in range(1, 300):
            h = 0
            while 2 ** h < n:
                h += 1
            self.assertEqual(least_height(n), h)

    def test_powers_of_two(self):
        self.assertEqual([least_height(n) for n in (1, 2)], [0, 1])
        for h in range(2, 100):
            self.assertEqual([least_height(2 ** h + more) for more in (-1, 0, 1)], [h, h, h + 1])
        self.assertEqual(least_height(GREAT), 100)


class PaperTest(unittest.TestCase):
    def test_least_high_plans(self):
        for plan in least_high_plans():
            self.assertIs(is_least_high(plan), True)
            self.assertIs(is_least_high(plain(plan)), True)
            self.assertIs(height_paper(plan), None)
            for n in list(range(1, 140)) + [GREAT, 2 ** 99 + 1, 3 ** 50]:
                self.assertEqual(height(plan, n), least_height(n))

    def test_other_plans(self):
        for plan in other_plans():
            self.assertIs(is_least_high(plan), False)
            paper = height_paper(plan)
            self.assertIs(type(paper), int)
            self.assertTrue(1 <= paper <= GREAT)
            self.assertGreater(height(plan, paper), least_height(paper))
            self.assertIs(judge_height_paper(plan, paper), True)
            if paper <= 2000:
                depths = depths_of(oracles.plan_shape(plan, paper))
                self.assertGreater(2 ** (max(depths) - 1), paper - 1)

    def test_small_plans_at_all_numbers(self):
        """A plan whose height is the least one up to a bound is least-high here."""
        for tables in ((), (TWO,), (L,), (FOUR,)):
            for end in ("left", "right", (TWO,), (L,), (R, TWO), (TWO_TWO,), (FOUR,), (TOO_HIGH,), (TWO, FOUR)):
                plan = Plan(tables, end)
                least = all(height(plan, n) == least_height(n) for n in range(1, 400))
                self.assertIs(is_least_high(plan), least)

    def test_one_entry_that_is_too_high(self):
        draw = random.Random(94)
        for _ in range(6):
            eight = low_table(8, draw.randrange(count_low_tables(8)))
            for m in range(4, 9):
                high = comb(m, "left")
                self.assertGreater(shape_height(high), least_height(m))
                changed = eight[:m - 2] + (high,) + eight[m - 1:]
                self.assertIs(is_least_high(Plan((), (eight,))), True)
                for plan in (Plan((), (changed,)), Plan((eight, changed), (eight,)), Plan((eight,), (eight, changed))):
                    self.assertIs(is_least_high(plan), False)
                    self.assertIs(judge_height_paper(plan, height_paper(plan)), True)

    def test_the_greatest_plans(self):
        sizes = (2, 2, 3, 5)
        table = glued([low_table(size, 0) for size in sizes])
        for plan in (
                Plan((glued([TWO, FOUR, TWO, TWO]),) * 6, (TWO_TWO,) * 5 + (table,)),
                Plan((glued([FOUR, FOUR, TWO]),) * 6, (glued([FOUR, TWO, FOUR]),) * 5 + (low_table(31, 0),)),
                Plan((glued([FOUR, FOUR, TWO]),) * 6, "left")):
            paper = height_paper(plan)
            self.assertTrue(1 <= paper <= GREAT)
            self.assertGreater(height(plan, paper), least_height(paper))
            self.assertEqual(height_paper(plain(plan)), paper)

    def test_judge(self):
        for plan in (Plan((), "left"), Plan((), (L,)), Plan((TWO,), "right"), Plan((), (TOO_HIGH,))):
            for n in range(1, 100):
                found = max(depths_of(oracles.plan_shape(plan, n)))
                self.assertIs(judge_height_paper(plan, n), found != least_height(n))
            for value in NO_TUPLES + (
                    -4, -10 ** 40, "4", (4,), [4], {4: 4}, ((4,),), Plan((), "left"), (), P, True, 0):
                if value != 10 ** 40:
                    self.assertIs(judge_height_paper(plan, value), False, repr(value))

    def test_judge_beyond(self):
        self.assertIs(judge_height_paper(Plan((), "left"), 10 ** 40 - 1), True)
        self.assertIs(judge_height_paper(Plan((), (L,)), 4 * 3 ** 70), True)
        self.assertIs(judge_height_paper(Plan((), (TWO,)), 10 ** 40 - 1), False)
        self.assertIs(judge_height_paper(Plan((TWO,), "left"), 10 ** 39), True)

    def test_judge_for_least_high_plans(self):
        for plan in least_high_plans()[:6]:
            for value in NO_TUPLES + (1, 2, 3, 4, 5, 7, 8, 16, 17, -1, GREAT, 10 ** 40, (4,), "4"):
                self.assertIs(judge_height_paper(plan, value), False, repr(value))


if __name__ == "__main__":
    unittest.main()

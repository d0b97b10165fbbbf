import random
import unittest

from lumpplans.plans import Plan
from lumpplans.pressing import row_behind, shape
from lumpplans.shapes import comb
from tests import oracles
from tests.samples import (
    P, TWO, L, R, TWO_TWO, check_new_list, drawn_plan, drawn_table, with_few_calls,
)

EXAMPLE = Plan((TWO,), "left")


def drawn_plans():
    """Return plans with each kind of end, with and without tables."""
    draw = random.Random(1)
    return [drawn_plan(draw) for _ in range(40)] + [
        Plan((), "left"), Plan((), "right"), Plan((), (TWO,)), Plan((), (L, R, TWO)), EXAMPLE,
        Plan([drawn_table(draw, 12) for _ in range(6)], tuple(drawn_table(draw, 12) for _ in range(6))),
        Plan((drawn_table(draw, 60),), "right"), Plan((TWO,) * 6, "left"),
    ]


class ShapeTest(unittest.TestCase):
    def test_example(self):
        self.assertEqual(shape(EXAMPLE, 7), (((P, P), P), ()))

    def test_one_lump(self):
        for plan in drawn_plans():
            self.assertEqual(shape(plan, 1), ())

    def test_two_lumps(self):
        for plan in drawn_plans():
            self.assertEqual(shape(plan, 2), P)

    def test_without_tables(self):
        for n in range(1, 61):
            self.assertEqual(shape(Plan((), "left"), n), comb(n, "left"))
            self.assertEqual(shape(Plan((), "right"), n), comb(n, "right"))

    def test_each_end(self):
        self.assertEqual(shape(Plan((TWO,), "right"), 7), (P, (P, (P, ()))))
        self.assertEqual(shape(Plan((), (TWO,)), 7), ((P, P), (P, ())))
        self.assertEqual(shape(Plan((L,), (TWO,)), 7), (((P, ()), (P, ())), ()))
        self.assertEqual(shape(Plan((R,), "left"), 8), ((((), P), ((), P)), P))

    def test_round_goes_on(self):
        plan = Plan((), (TWO, L))
        stretch = ((P, P), P)
        self.assertEqual(shape(plan, 6), stretch)
        self.assertEqual(shape(plan, 18), ((stretch, stretch), stretch))
        pair = (stretch, stretch)
        self.assertEqual(shape(plan, 36), ((pair, pair), pair))

    def test_by_texts(self):
        for plan in drawn_plans():
            for n in range(1, 61):
                self.assertEqual(oracles.text_of(shape(plan, n)), oracles.plan_shape(plan, n))

    def test_table_with_all_lumps(self):
        draw = random.Random(2)
        table = drawn_table(draw, 60)
        for end in ("left", "right", (TWO,)):
            for n in range(2, 61):
                self.assertEqual(shape(Plan((table,), end), n), table[n - 2])

    def test_few_calls(self):
        for plan in (Plan((), "left"), Plan((tuple(comb(m, "right") for m in range(2, 61)),), "left")):
            self.assertEqual(with_few_calls(lambda: oracles.text_of(shape(plan, 60))).count("o"), 60)


class RowBehindTest(unittest.TestCase):
    def test_example(self):
        single = [(k, k + 1) for k in range(7)]
        pressed = [(0, 2), (2, 4), (4, 6), (6, 7)]
        self.assertEqual(row_behind(EXAMPLE, 7, 0), single)
        for k in (1, 2, 3, 40):
            self.assertEqual(row_behind(EXAMPLE, 7, k), pressed)

    def test_without_stages(self):
        for end in ("left", "right"):
            for k in (0, 1, 40):
                for n in (1, 2, 7, 200):
                    self.assertEqual(row_behind(Plan((), end), n, k), [(i, i + 1) for i in range(n)])

    def test_one_lump_stays(self):
        plan = Plan((), (L, TWO))
        self.assertEqual(row_behind(plan, 7, 1), [(0, 3), (3, 6), (6, 7)])
        self.assertEqual(row_behind(plan, 7, 2), [(0, 6), (6, 7)])
        for k in (3, 4, 5, 39, 40):
            self.assertEqual(row_behind(plan, 7, k), [(0, 7)])
        for k in range(41):
            self.assertEqual(row_behind(plan, 1, k), [(0, 1)])
            self.assertEqual(row_behind(Plan([L, L], "left"), 1, k), [(0, 1)])

    def test_more_stages_than_the_plan_has(self):
        plan = Plan((TWO, TWO_TWO), "right")
        for k in (2, 3, 40):
            self.assertEqual(row_behind(plan, 20, k), [(0, 8), (8, 16), (16, 20)])
        self.assertEqual(row_behind(plan, 20, 1), [(k, k + 2) for k in range(0, 20, 2)])

    def test_by_texts(self):
        for plan in drawn_plans():
            for n in (1, 2, 3, 7, 16, 59, 60, 61, 120, 199, 200):
                rows = oracles.rows(plan, n)
                for k in (0, 1, 2, 3, 5, 40):
                    expected = []
                    for text in rows[min(k, len(rows) - 1)]:
                        begin = expected[-1][1] if expected else 0
                        expected.append((begin, begin + text.count("o")))
                    self.assertEqual(row_behind(plan, n, k), expected)

    def test_new_lists(self):
        for k in (0, 1, 5):
            check_new_list(self, lambda: row_behind(EXAMPLE, 7, k))


if __name__ == "__main__":
    unittest.main()

import random
import unittest

from lumpplans.digits import is_lump
from lumpplans.errors import TooMany
from lumpplans.lasting import breaks_at, count_lasting, is_lasting, lasting, new_lasting
from lumpplans.lumps import all_lumps
from lumpplans.plans import Plan
from lumpplans.shapes import comb
from tests.growing import FOUR, LATE, Growth, growing_plans, sudden_table
from tests.samples import NO_TUPLES, TWO, L, R, TWO_TWO, check_new_list, drawn_table, with_few_calls
from tests.test_digits import NO_PLACES, great_plans
from tests.test_pressing import EXAMPLE

GREAT = 10 ** 30
ROUND = Plan((), (TWO,))
# Up to these numbers all answers are compared with pressed rows.
MOST = 13


class ExamplesTest(unittest.TestCase):
    def test_round_of_two(self):
        singles = [(k, k + 1) for k in range(7)]
        self.assertEqual(sorted(lasting(ROUND, 7)), sorted([(0, 4), (0, 2), (2, 4), (4, 6)] + singles))
        self.assertEqual(count_lasting(ROUND, 7), 4)
        self.assertEqual(new_lasting(ROUND, 8), [(0, 8), (4, 8), (6, 8), (7, 8)])

    def test_two_lumps(self):
        self.assertIs(is_lasting(Plan((), (L,)), 2, 0, 2), True)
        self.assertIs(is_lasting(Plan((), (R,)), 2, 0, 2), False)
        self.assertEqual(breaks_at(Plan((), (R,)), 2, 0, 2), 3)

    def test_another_part_later(self):
        plan = Plan((LATE,), "left")
        for n in range(3, 30):
            self.assertIs(is_lump(plan, n, 0, 3), True)
            self.assertIs(is_lasting(plan, n, 0, 3), n > 3)
        self.assertEqual(breaks_at(plan, 3, 0, 3), 4)

    def test_round_of_four(self):
        plan = Plan((), (FOUR,))
        self.assertEqual(new_lasting(plan, 4), [(0, 4), (0, 2), (2, 4), (3, 4)])
        self.assertIs(is_lump(plan, 2, 0, 2), True)
        self.assertIs(is_lasting(plan, 2, 0, 2), False)

    def test_ends(self):
        for n in range(1, 20):
            self.assertEqual(count_lasting(Plan((), "left"), n), n - 1)
            self.assertEqual(count_lasting(Plan((), "right"), n), 0)
            self.assertEqual(lasting(Plan((), "right"), n), [(k, k + 1) for k in range(n)])


class PressedRowsTest(unittest.TestCase):
    def test_all_pairs(self):
        for plan in growing_plans():
            growth = Growth(plan, MOST)
            before = []
            for n in range(1, MOST + 1):
                expected = growth.lasting(n)
                self.assertEqual(lasting(plan, n), expected)
                self.assertEqual(count_lasting(plan, n), len(expected) - n)
                for i in range(-1, n + 2):
                    for j in range(-1, n + 2):
                        self.assertIs(is_lasting(plan, n, i, j), (i, j) in expected, (n, i, j))
                for i, j in growth.parts[n]:
                    self.assertEqual(breaks_at(plan, n, i, j), growth.breaking(n, (i, j)), (n, i, j))
                if n > 1:
                    self.assertEqual(new_lasting(plan, n), [lump for lump in expected if lump not in before])
                before = expected

    def test_longer_rows(self):
        draw = random.Random(111)
        for plan in growing_plans(6):
            for n in [draw.randint(14, 199) for _ in range(3)] + [200]:
                found = lasting(plan, n)
                self.assertEqual(found, [lump for lump in all_lumps(plan, n) if is_lasting(plan, n, *lump)])
                self.assertEqual(count_lasting(plan, n), len(found) - n)
                new = [lump for lump in found if lump not in lasting(plan, n - 1)]
                self.assertEqual(new_lasting(plan, n), new)

    def test_kinds_and_new_lists(self):
        for plan in growing_plans(4):
            check_new_list(self, lambda: lasting(plan, 9))
            check_new_list(self, lambda: new_lasting(plan, 9))
            for lump in lasting(plan, 9) + new_lasting(plan, 9):
                self.assertIs(type(lump), tuple)
            self.assertIs(type(count_lasting(plan, 9)), int)


class AnythingTest(unittest.TestCase):
    def test_anything(self):
        for plan in (EXAMPLE, Plan((), "left"), Plan((), "right"), Plan((), (L,))):
            for value in NO_PLACES + NO_TUPLES[:4] + (("a", 1), [[0, 1]], 8, 10 ** 40):
                if value != 0 or isinstance(value, bool):
                    self.assertIs(is_lasting(plan, 7, value, 7), False, repr(value))
                    self.assertIs(is_lasting(plan, 7, 0, value), False, repr(value))
                    self.assertIs(is_lasting(plan, 7, value, value), False, repr(value))
            self.assertIs(is_lasting(plan, 7, False, True), False)
            self.assertIs(is_lasting(plan, 1, 0, True), False)
            self.assertIs(is_lasting(plan, 1, 0, 1), True)
            self.assertIs(is_lasting(plan, 7, 6, 7), True)
            self.assertIs(is_lasting(plan, 7, 7, 8), False)
            self.assertIs(is_lasting(plan, 7, -1, 0), False)
            self.assertIs(is_lasting(plan, 7, 3, 2), False)
            self.assertIs(is_lasting(plan, 7, 3, 3), False)


class GreatNumbersTest(unittest.TestCase):
    def test_combs(self):
        self.assertEqual(count_lasting(Plan((), "left"), GREAT), GREAT - 1)
        self.assertEqual(count_lasting(Plan((), "right"), GREAT), 0)
        self.assertEqual(count_lasting(Plan((TWO,), "left"), GREAT + 1), GREAT // 2 + GREAT // 2 - 1)
        self.assertEqual(count_lasting(Plan((TWO,), "right"), GREAT + 1), GREAT // 2)
        self.assertEqual(new_lasting(Plan((), "left"), GREAT), [(0, GREAT), (GREAT - 1, GREAT)])
        self.assertEqual(new_lasting(Plan((), "right"), GREAT), [(GREAT - 1, GREAT)])
        self.assertEqual(breaks_at(Plan((), "right"), GREAT, 5, GREAT), GREAT + 1)
        self.assertIs(breaks_at(Plan((), "left"), GREAT, 0, GREAT), None)

    def test_round(self):
        for n in (2 ** 99, 2 ** 99 - 1, 2 ** 98 + 2 ** 3, GREAT):
            # Of each binary digit 1 there is a full lump with all lumps within.
            self.assertEqual(count_lasting(ROUND, n), n - bin(n).count("1"))
        self.assertEqual(
            new_lasting(ROUND, 2 ** 99), [(2 ** 99 - 2 ** k, 2 ** 99) for k in range(99, -1, -1)])
        self.assertEqual(breaks_at(ROUND, 2 ** 99 - 1, 0, 2 ** 99 - 1), 2 ** 99)
        self.assertEqual(breaks_at(ROUND, 2 ** 98 + 1, 0, 2 ** 98 + 1), 2 ** 98 + 2)

    def test_breaks_in_a_great_stretch(self):
        plan = Plan((), (sudden_table(9),))
        for k in range(1, 30):
            n = 9 ** k * 2
            self.assertEqual(breaks_at(plan, n, 0, n), n + 1)
        plan = Plan((TWO, (TWO_TWO[0], TWO_TWO[1], ((), TWO_TWO[1]))), (L,))
        # The second table has the lump (0, 2) at 2 and 3 but not at 4.
        for first in (0, 8, 8 * 10 ** 29):
            self.assertEqual(breaks_at(plan, first + 4, first, first + 4), first + 7)
            self.assertEqual(breaks_at(plan, first + 5, first, first + 4), first + 7)
            self.assertEqual(breaks_at(plan, first + 3, first, first + 3), first + 4)

    def test_alike_plans(self):
        draw = random.Random(112)
        for one, other in great_plans():
            for n in (GREAT, GREAT - 1, 2 ** 99, draw.randrange(1, GREAT), draw.randrange(1, 10 ** 9)):
                self.assertEqual(count_lasting(one, n), count_lasting(other, n))
                new = new_lasting(one, n)
                self.assertEqual(new, new_lasting(other, n))
                self.assertEqual(count_lasting(one, n), count_lasting(one, n - 1) + len(new) - 1)
                self.assertEqual(new[-1], (n - 1, n))
                for i, j in new:
                    self.assertIs(is_lasting(one, n, i, j), True)
                    self.assertIs(is_lasting(one, n - 1, i, j), False)
                    self.assertIs(breaks_at(one, n, i, j), None)

    def test_breaking_by_lumps(self):
        """A lump that breaks is one, and one with the same lumps within, up to just ahead of its number."""
        draw = random.Random(113)
        broken = 0
        for one, other in great_plans():
            for n in (GREAT, 10 ** 20 + 3, draw.randrange(1, GREAT)):
                for i, j in [(0, n)] + [lump for lump in new_lasting(one, n + 50) if lump[1] <= n]:
                    found = breaks_at(one, n, i, j) if is_lump(one, n, i, j) else None
                    if found is not None:
                        broken += 1
                        self.assertEqual(found, breaks_at(other, n, i, j))
                        self.assertGreater(found, n)
                        self.assertIs(is_lump(one, found - 1, i, j), True)
                        self.assertEqual(breaks_at(one, found - 1, i, j), found)
        self.assertGreater(broken, 20)

    def test_few_calls(self):
        deep = tuple(comb(m, "left") for m in range(2, 61))
        draw = random.Random(114)
        for plan in (Plan((), (deep,)), Plan((deep, deep), "left"), Plan((drawn_table(draw, 60),) * 6, "right")):
            for n in (200, GREAT, 60 ** 17 - 1):
                with_few_calls(lambda: count_lasting(plan, n))
                with_few_calls(lambda: breaks_at(plan, n, 0, n))
                with_few_calls(lambda: is_lasting(plan, n, 0, n))
            with_few_calls(lambda: lasting(plan, 200))
            with_few_calls(lambda: new_lasting(plan, GREAT))


class TooManyTest(unittest.TestCase):
    def test_border(self):
        def right_table(size):
            return tuple(comb(m, "right") for m in range(2, size + 1))
        # When a stretch of right combs gets its last place, all its lumps become lasting.
        for size, many in ((45, 399), (46, 400)):
            n = 60 ** 6 * size
            plan = Plan((right_table(60),) * 6, (right_table(size),))
            found = new_lasting(plan, n)
            self.assertEqual(len(found), many)
            self.assertEqual(count_lasting(plan, n) - count_lasting(plan, n - 1), many - 1)
        plan = Plan((right_table(60),) * 6, (right_table(47),))
        n = 60 ** 6 * 47
        with self.assertRaises(TooMany):
            new_lasting(plan, n)
        self.assertEqual(count_lasting(plan, n) - count_lasting(plan, n - 1), 400)
        self.assertEqual(new_lasting(plan, n - 1), [(n - 2, n - 1)])
        with self.assertRaises(TooMany):
            new_lasting(Plan((), (right_table(60),)), 60 ** 17)


if __name__ == "__main__":
    unittest.main()

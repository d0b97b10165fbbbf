import random
import unittest

from lumpplans.digits import crossing, depth, is_lump, least_lump, lump_at, path_of
from lumpplans.errors import BadPlace, TooGreat
from lumpplans.gluing import glue
from lumpplans.plans import Plan
from lumpplans.pressing import shape
from lumpplans.shapes import comb
from tests import oracles
from tests.samples import (
    NO_TUPLES, P, TWO, L, R, TWO_TWO, TWO_L, drawn_plan, drawn_table, depths_of, with_few_calls,
)
from tests.test_pressing import EXAMPLE

GREAT = 10 ** 30
LONG = 10 ** 20
NO_PLACES = (True, False, None, "", "0", "a", [], [0], (), (0,), {}, {0: 0}, -1, -10 ** 40, EXAMPLE, ((0,),))
# Few that go through all pairs; n is what the row has.
NUMBERS = (1, 2, 3, 4, 5, 6, 7, 9, 12, 16, 23, 31)


def plans():
    """Return plans with each kind of end, with and without tables."""
    draw = random.Random(30)
    return [drawn_plan(draw) for _ in range(18)] + [
        Plan((), "left"), Plan((), "right"), Plan((), (TWO,)), Plan((), (L, R, TWO)), EXAMPLE,
        Plan((TWO_L,), "right"), Plan((TWO, R), "left"), Plan((drawn_table(draw, 20),), (TWO_TWO,)),
    ]


def great_plans():
    """Return pairs of plans that tell the same by unlike tables."""
    draw = random.Random(31)
    found = []
    for end in ("left", "right", None):
        for _ in range(4):
            s, t, u, v = [drawn_table(draw, draw.randint(2, 7)) for _ in range(4)]
            if end is None:
                found.append((Plan((s, t), (u, v)), Plan((glue(s, t),), (glue(u, v),))))
            else:
                found.append((Plan((s, t, u, v), end), Plan((glue(s, t), glue(u, v)), end)))
    return found


def lump_paths(made, first=0, path=()):
    """Return the list of the pairs of a lump and its path of a shape, and where the shape ends."""
    if made == ():
        return [((first, first + 1), path)], first + 1
    left, middle = lump_paths(made[0], first, path + (0,))
    right, end = lump_paths(made[1], middle, path + (1,))
    return [((first, end), path)] + left + right, end


def cross(one, other):
    """Return whether two pairs have places in common, and neither is within the other."""
    (i, j), (x, y) = sorted([one, other])
    return i < x < j < y


class ExampleTest(unittest.TestCase):
    def test_at_seven(self):
        lumps = [(0, 7), (0, 6), (0, 4), (0, 2), (0, 1), (1, 2), (2, 4), (2, 3), (3, 4), (4, 6), (4, 5), (5, 6),
                 (6, 7)]
        for i in range(8):
            for j in range(8):
                self.assertIs(is_lump(EXAMPLE, 7, i, j), (i, j) in lumps)
        self.assertEqual(depth(EXAMPLE, 7, 3), 4)
        self.assertEqual(path_of(EXAMPLE, 7, 3, 4), (0, 0, 1, 1))
        self.assertEqual(lump_at(EXAMPLE, 7, (0, 0, 1, 1)), (3, 4))
        self.assertEqual(least_lump(EXAMPLE, 7, 3, 4), (0, 6))
        self.assertEqual(least_lump(EXAMPLE, 7, 4, 3), (0, 6))

    def test_at_a_great_number(self):
        self.assertEqual(depth(EXAMPLE, LONG, 3), 5 * 10 ** 19)
        self.assertIs(is_lump(EXAMPLE, LONG, 0, 10 ** 19), True)
        self.assertIs(is_lump(EXAMPLE, LONG, 10 ** 19, 10 ** 19 + 2), True)
        self.assertIs(is_lump(EXAMPLE, LONG, 10 ** 19, 10 ** 19 + 3), False)
        self.assertIs(is_lump(EXAMPLE, LONG, 0, 10 ** 19 + 1), False)
        self.assertEqual(least_lump(EXAMPLE, LONG, 3, 4), (0, 6))
        self.assertEqual(least_lump(EXAMPLE, LONG, 10 ** 19, 3), (0, 10 ** 19 + 2))
        self.assertEqual(crossing(EXAMPLE, LONG, 10 ** 19, 10 ** 19 + 3), (0, 10 ** 19 + 2))


class IsLumpTest(unittest.TestCase):
    def test_all_pairs(self):
        for plan in plans():
            for n in NUMBERS:
                lumps = oracles.ranges(oracles.plan_shape(plan, n))
                for i in range(-2, n + 3):
                    for j in range(-2, n + 3):
                        self.assertIs(is_lump(plan, n, i, j), (i, j) in lumps, (n, i, j))

    def test_anything(self):
        for plan in (EXAMPLE, Plan((), "left"), Plan((), "right"), Plan((), (L,))):
            for value in NO_PLACES + NO_TUPLES[:4]:
                if value != 0 or isinstance(value, bool):
                    self.assertIs(is_lump(plan, 7, value, 7), False, repr(value))
                    self.assertIs(is_lump(plan, 7, 0, value), False, repr(value))
                    self.assertIs(is_lump(plan, 7, value, value), False, repr(value))
            self.assertIs(is_lump(plan, 7, False, True), False)
            self.assertIs(is_lump(plan, 1, 0, True), False)
            self.assertIs(is_lump(plan, 1, 0, 1), True)
            self.assertIs(is_lump(plan, 7, 0, 7), True)
            self.assertIs(is_lump(plan, 7, 0, 10 ** 40), False)
            self.assertIs(is_lump(plan, 7, 7, 8), False)
            self.assertIs(is_lump(plan, 7, -1, 0), False)
            self.assertIs(is_lump(plan, 7, (0, 7), None), False)

    def test_great_combs(self):
        left = Plan((), "left")
        right = Plan((), "right")
        for j in (1, 2, 10 ** 29, GREAT - 1, GREAT):
            self.assertIs(is_lump(left, GREAT, 0, j), True)
            self.assertIs(is_lump(right, GREAT, GREAT - j, GREAT), True)
        for i, j in ((1, 3), (1, GREAT), (10 ** 29, 10 ** 29 + 2)):
            self.assertIs(is_lump(left, GREAT, i, j), False)
            self.assertIs(is_lump(right, GREAT, GREAT - j, GREAT - i), False)
        self.assertIs(is_lump(left, GREAT, GREAT, GREAT + 1), False)
        self.assertIs(is_lump(left, GREAT, GREAT - 1, GREAT), True)


class PathTest(unittest.TestCase):
    def test_there_and_back(self):
        for plan in plans():
            for n in NUMBERS + (60,):
                found, end = lump_paths(shape(plan, n))
                self.assertEqual(end, n)
                for lump, path in found:
                    self.assertEqual(path_of(plan, n, *lump), path)
                    self.assertEqual(lump_at(plan, n, path), lump)
                    if lump[1] - lump[0] == 1:
                        self.assertIs(lump_at(plan, n, path + (0,)), None)
                        self.assertIs(lump_at(plan, n, path + (1, 0, 1)), None)

    def test_no_lumps(self):
        for plan in plans():
            lumps = oracles.ranges(oracles.plan_shape(plan, 12))
            for i in range(-1, 14):
                for j in range(-1, 14):
                    if (i, j) not in lumps:
                        self.assertIs(path_of(plan, 12, i, j), None)
        for value in NO_PLACES:
            self.assertIs(path_of(EXAMPLE, 7, value, 7), None)
            self.assertIs(path_of(EXAMPLE, 7, 0, value), None)

    def test_no_paths(self):
        for plan in (EXAMPLE, Plan((), "right"), Plan((), (TWO,))):
            self.assertEqual(lump_at(plan, 7, ()), (0, 7))
            for path in NO_TUPLES + (
                    [], [0], [0, 0], (2,), (-1,), (True,), (False,), (0, True), (0, 2), ("0",), (None,), ((0,),),
                    ([0],), (0, [1]), (0, None), "01", {0: 1}, (10 ** 40,), (plan,), ((), 0)):
                self.assertIs(lump_at(plan, 7, path), None, repr(path))
        for path in ((0,), (1,), (0,) * 400):
            self.assertIs(lump_at(EXAMPLE, 1, path), None)
        self.assertEqual(lump_at(EXAMPLE, 1, ()), (0, 1))
        self.assertEqual(path_of(EXAMPLE, 1, 0, 1), ())

    def test_just_400_numbers(self):
        left = Plan((), "left")
        right = Plan((), "right")
        n = GREAT
        self.assertEqual(path_of(left, n, 0, n - 400), (0,) * 400)
        self.assertEqual(path_of(left, n, n - 400, n - 399), (0,) * 399 + (1,))
        self.assertEqual(path_of(right, n, 400, n), (1,) * 400)
        self.assertEqual(path_of(right, n, 399, 400), (1,) * 399 + (0,))
        self.assertEqual(lump_at(left, n, (0,) * 400), (0, n - 400))
        self.assertEqual(lump_at(right, n, (1,) * 399 + (0,)), (399, 400))
        for plan, i, j in (
                (left, 0, n - 401), (left, n - 401, n - 400), (left, 0, 1), (left, 5, 6),
                (right, 401, n), (right, 400, 401), (right, n - 1, n), (right, n - 2, n)):
            with self.assertRaises(TooGreat):
                path_of(plan, n, i, j)
        self.assertEqual(path_of(left, 401, 0, 1), (0,) * 400)
        with self.assertRaises(TooGreat):
            path_of(left, 402, 0, 1)

    def test_400_numbers_of_two_pieces(self):
        deep = tuple(comb(m, "right") for m in range(2, 61))
        plan = Plan((deep,), "left")
        n = 60 * 10 ** 28
        # 341 numbers of the comb of lumps, and 59 of the last place of a stretch.
        self.assertEqual(path_of(plan, n, n - 340 * 60 - 1, n - 340 * 60), (0,) * 340 + (1,) + (1,) * 59)
        with self.assertRaises(TooGreat):
            path_of(plan, n, n - 341 * 60 - 1, n - 341 * 60)
        self.assertIs(path_of(plan, n, n - 341 * 60 - 1, n - 341 * 60 + 1), None)

    def test_too_great_behind_no_lump(self):
        self.assertIs(path_of(Plan((), "left"), GREAT, 5, 7), None)
        self.assertIs(path_of(Plan((), "left"), GREAT, "5", 6), None)


class LeastLumpTest(unittest.TestCase):
    def test_all_pairs_of_places(self):
        for plan in plans():
            for n in NUMBERS:
                lumps = oracles.ranges(oracles.plan_shape(plan, n))
                for i in range(n):
                    for j in range(i, n):
                        least = min([(y - x, x, y) for x, y in lumps if x <= i and j < y])[1:]
                        self.assertEqual(least_lump(plan, n, i, j), least)
                        self.assertEqual(least_lump(plan, n, j, i), least)

    def test_first_value_that_is_no_place(self):
        for value in NO_PLACES + (7, 8, 10 ** 40):
            for other in (3, None, 7, [1], -5):
                with self.assertRaises(BadPlace) as caught:
                    least_lump(EXAMPLE, 7, value, other)
                self.assertEqual(repr(caught.exception.number), repr(value))
            with self.assertRaises(BadPlace) as caught:
                least_lump(EXAMPLE, 7, 6, value)
            self.assertEqual(repr(caught.exception.number), repr(value))
            with self.assertRaises(BadPlace) as caught:
                depth(EXAMPLE, 7, value)
            self.assertEqual(repr(caught.exception.number), repr(value))
        with self.assertRaises(BadPlace):
            least_lump(EXAMPLE, 1, 0, 1)

    def test_great_numbers(self):
        left = Plan((), "left")
        right = Plan((), "right")
        self.assertEqual(least_lump(left, GREAT, 5, 10 ** 29), (0, 10 ** 29 + 1))
        self.assertEqual(least_lump(right, GREAT, 10 ** 29, 5), (5, GREAT))
        self.assertEqual(least_lump(left, GREAT, GREAT - 1, GREAT - 1), (GREAT - 1, GREAT))
        self.assertEqual(least_lump(Plan((), (TWO,)), 2 ** 99, 2 ** 98, 2 ** 98 - 1), (0, 2 ** 99))
        self.assertEqual(least_lump(Plan((), (TWO,)), 2 ** 98 + 1, 2 ** 98, 0), (0, 2 ** 98 + 1))


class DepthTest(unittest.TestCase):
    def test_each_place(self):
        for plan in plans():
            for n in NUMBERS + (100,):
                depths = depths_of(oracles.plan_shape(plan, n))
                self.assertEqual([depth(plan, n, i) for i in range(n)], depths)

    def test_great_numbers(self):
        left = Plan((), "left")
        self.assertEqual(depth(left, GREAT, 0), GREAT - 1)
        self.assertEqual(depth(left, GREAT, 1), GREAT - 1)
        self.assertEqual(depth(left, GREAT, 10 ** 29), GREAT - 10 ** 29)
        self.assertEqual(depth(Plan((), "right"), GREAT, 0), 1)
        self.assertEqual(depth(Plan((), "right"), GREAT, GREAT - 1), GREAT - 1)
        self.assertEqual(depth(Plan((), (TWO,)), 2 ** 99, 12345), 99)


class CrossingTest(unittest.TestCase):
    def test_all_pairs(self):
        for plan in plans():
            for n in NUMBERS:
                lumps = oracles.ranges(oracles.plan_shape(plan, n))
                for i in range(n):
                    for j in range(i + 1, n + 1):
                        found = crossing(plan, n, i, j)
                        if (i, j) in lumps:
                            self.assertIs(found, None)
                        else:
                            self.assertIn(found, lumps)
                            self.assertTrue(cross(found, (i, j)))

    def test_great_numbers(self):
        self.assertEqual(crossing(Plan((), "left"), GREAT, 5, 10 ** 29), (0, 10 ** 29 - 1))
        self.assertEqual(crossing(Plan((), "right"), GREAT, 5, 10 ** 29), (6, GREAT))
        self.assertIs(crossing(Plan((), "right"), GREAT, 5, GREAT), None)
        self.assertIs(crossing(Plan((), "right"), GREAT, 5, 6), None)


class GreatNumbersTest(unittest.TestCase):
    def check_pair(self, plan, n, i, j):
        self.assertEqual(crossing(plan, n, i, j) is None, is_lump(plan, n, i, j))
        if not is_lump(plan, n, i, j):
            found = crossing(plan, n, i, j)
            self.assertIs(is_lump(plan, n, *found), True)
            self.assertTrue(cross(found, (i, j)))

    def check_path(self, plan, n, path):
        """Check the lumps to which the beginnings of a path lead, as far as they are any."""
        outer = (0, n)
        for many in range(1, len(path) + 1):
            lump = lump_at(plan, n, path[:many])
            if lump is None:
                self.assertEqual(outer[1] - outer[0], 1)
                return
            self.assertIs(is_lump(plan, n, *lump), True)
            self.assertEqual(path_of(plan, n, *lump), path[:many])
            self.assertEqual(lump[path[many - 1]], outer[path[many - 1]])
            self.assertEqual(least_lump(plan, n, lump[0], lump[1] - 1), lump)
            if lump[1] - lump[0] == 1:
                self.assertEqual(depth(plan, n, lump[0]), many)
            outer = lump

    def test_paths_that_are_drawn(self):
        draw = random.Random(32)
        for plan, _ in great_plans():
            for n in (GREAT, GREAT - 1, 7 ** 30 + 3):
                for _ in range(4):
                    self.check_path(plan, n, tuple(draw.choice((0, 1)) for _ in range(200)))
                self.check_path(plan, n, (0,) * 100)
                self.check_path(plan, n, (1,) * 100)

    def test_plans_that_tell_the_same(self):
        draw = random.Random(33)
        for one, other in great_plans():
            for n in (GREAT, 2 ** 90, 10 ** 31 - 1):
                for _ in range(30):
                    i = draw.randrange(n)
                    near = [draw.randrange(n), min(n - 1, i + draw.randint(0, 50)), max(0, i - draw.randint(0, 2000))]
                    for j in near:
                        x, y = least_lump(one, n, i, j)
                        self.assertEqual(least_lump(other, n, j, i), (x, y))
                        self.assertIs(is_lump(one, n, x, y), True)
                        self.assertIs(is_lump(other, n, x, y), True)
                        self.assertEqual(depth(one, n, j), depth(other, n, j))
                        first, last = min(i, j), max(i, j) + 1
                        self.assertIs(is_lump(one, n, first, last), is_lump(other, n, first, last))
                        self.check_pair(one, n, first, last)

    def test_few_calls(self):
        deep = tuple(comb(m, "left") for m in range(2, 61))
        for plan in (Plan((), (TWO,)), Plan((deep,) * 6, "left"), Plan((), (deep,)), Plan((TWO,), "right")):
            n = 10 ** 31 - 1
            with_few_calls(lambda: is_lump(plan, n, 1, n))
            with_few_calls(lambda: lump_at(plan, n, (0,) * 400))
            with_few_calls(lambda: depth(plan, n, n - 2))
            with_few_calls(lambda: least_lump(plan, n, 0, n - 1))
            with_few_calls(lambda: crossing(plan, n, 1, n - 1))

    def test_results_are_tuples_of_integers(self):
        for found in (
                lump_at(EXAMPLE, 7, (0,)), path_of(EXAMPLE, 7, 3, 4), least_lump(EXAMPLE, 7, 3, 4),
                crossing(EXAMPLE, 7, 3, 5), least_lump(EXAMPLE, 7, 3, 3)):
            self.assertIs(type(found), tuple)
            for number in found:
                self.assertIs(type(number), int)
        self.assertEqual(shape(EXAMPLE, 4), (P, P))


if __name__ == "__main__":
    unittest.main()

import random
import unittest

from lumpplans.errors import Alike
from lumpplans.gluing import glue, glued
from lumpplans.parting import common_beginning, judge_parting, least_parting, parting
from lumpplans.plainforms import prime_list
from lumpplans.plans import Plan
from lumpplans.shapes import comb, part_at, size_of
from lumpplans.tables import table_size
from tests import oracles
from tests.samples import (
    NO_TUPLES, P, Q, TWO, L, R, TWO_TWO, TWO_L, PRIME_SIX, check_new_list, drawn_plan, drawn_table, near_plans,
    told_otherwise, with_few_calls,
)

BOUND = 90
FOUR_LEFT = (P, Q, (Q, ()))
FOUR_RIGHT = (P, Q, (((), P), ()))


def pairs():
    """Return pairs of plans, some of them near to each other, some alike."""
    draw = random.Random(50)
    found = []
    for _ in range(9):
        plan = drawn_plan(draw, 4)
        found.append((plan, drawn_plan(draw, 4)))
        found.extend((plan, other) for other in near_plans(draw, plan) + told_otherwise(draw, plan)[:2])
    found.extend([
        (Plan((), "left"), Plan((), "right")), (Plan((TWO,), "left"), Plan((), (TWO,))),
        (Plan((), (TWO, L)), Plan((), (L, TWO))), (Plan((), (TWO, L)), Plan((), (TWO, L, TWO, R))),
        (Plan((FOUR_LEFT,), "left"), Plan((FOUR_RIGHT,), "left")), (Plan((TWO_L,), "left"), Plan((PRIME_SIX,), "left")),
    ])
    return found


def texts(plan):
    return [oracles.plan_shape(plan, n) for n in range(1, BOUND + 1)]


def least_unlike(one, other):
    """Return the least number up to the bound at which the plans have unlike shapes, or None."""
    for n, (text, other_text) in enumerate(zip(texts(one), texts(other)), start=1):
        if text != other_text:
            return n
    return None


def all_paths(made, path=()):
    """Return the paths to all parts of a shape that have a size of at least 2."""
    if made == ():
        return []
    return [path] + all_paths(made[0], path + (0,)) + all_paths(made[1], path + (1,))


def first_path(one, other):
    """Return the first path, as tuples are compared, at which the left parts have unlike sizes."""
    both = sorted(set(all_paths(one)) & set(all_paths(other)))
    return next(
        path for path in both if size_of(part_at(one, path)[0]) != size_of(part_at(other, path)[0]))


def near_misses(value):
    n, path = value
    found = [
        (n + 1, path), (n - 1, path), (-n, path), (n, path + (0,)), (n, path + (1,)), (n, path[1:] + (0, 0)),
        [n, path], (n, list(path)), (n,), (n, path, path), (path, n), n, path, (str(n), path), (n, str(path)),
        (n, None), (None, path), (True, path), (n, path + (True,)), (n, path + ("0",)), ((n, path),), (n, n),
        {n: path}, (n, {}), ([n], path), (10 ** 40, path),
    ]
    if path:
        found.extend([(n, path[:-1]), (n, path[:-1] + (1 - path[-1],)), (n, ()), (n, path[:-1] + (bool(path[-1]),))])
    return found


class ExamplesTest(unittest.TestCase):
    def test_left_and_round(self):
        one = Plan((TWO,), "left")
        other = Plan((), (TWO,))
        self.assertEqual(common_beginning(one, other), [TWO])
        self.assertEqual(least_parting(one, other), 7)
        self.assertEqual(parting(one, other), (7, ()))
        self.assertIs(judge_parting(one, other, (7, ())), True)

    def test_rounds(self):
        one = Plan((), (TWO, L))
        other = Plan((), (L, TWO))
        self.assertEqual(common_beginning(one, other), [])
        self.assertEqual(least_parting(one, other), 4)

    def test_rounds_that_are_alike(self):
        for one, other in (
                (Plan((), (TWO_TWO,)), Plan((), (TWO,))), (Plan((TWO,), (TWO, TWO)), Plan((), (TWO,))),
                (Plan((TWO,), (L, TWO)), Plan((), (TWO, L)))):
            self.assertIs(least_parting(one, other), None)
            self.assertIs(parting(one, other), None)
            with self.assertRaises(Alike):
                common_beginning(one, other)

    def test_tables_of_size_four(self):
        one = Plan((FOUR_LEFT,), "left")
        other = Plan((FOUR_RIGHT,), "left")
        self.assertEqual(parting(one, other), (4, (0,)))
        self.assertEqual(parting(other, one), (4, (0,)))


class CommonBeginningTest(unittest.TestCase):
    def test_within_a_table(self):
        one = Plan((glued([TWO, L, R]),), "left")
        other = Plan((TWO_L, TWO), (R,))
        self.assertEqual(common_beginning(one, other), [TWO, L])
        self.assertEqual(least_parting(one, other), 6 * 2 + 1)

    def test_alike_plans(self):
        draw = random.Random(51)
        for one, _ in pairs():
            for other in told_otherwise(draw, one):
                if isinstance(one.end(), str):
                    self.assertEqual(common_beginning(one, other), prime_list(one, 60))
                else:
                    with self.assertRaises(Alike):
                        common_beginning(one, other)

    def test_left_and_right(self):
        self.assertEqual(common_beginning(Plan((), "left"), Plan((), "right")), [])
        self.assertEqual(common_beginning(Plan((TWO_L,), "left"), Plan((TWO_L,), "right")), [TWO, L])

    def test_by_prime_lists(self):
        for one, other in pairs():
            if least_parting(one, other) is not None:
                expected = []
                for s, t in zip(prime_list(one, 60), prime_list(other, 60)):
                    if s != t:
                        break
                    expected.append(s)
                self.assertEqual(common_beginning(one, other), expected)
                self.assertEqual(common_beginning(other, one), expected)

    def test_new_lists(self):
        check_new_list(self, lambda: common_beginning(Plan((TWO, L), "left"), Plan((TWO, L), "right")))
        check_new_list(self, lambda: common_beginning(Plan((TWO, L), "left"), Plan((TWO, L), "left")))


class LeastPartingTest(unittest.TestCase):
    def test_by_pressing_both(self):
        for one, other in pairs():
            found = least_parting(one, other)
            expected = least_unlike(one, other)
            if found is not None and found <= BOUND or expected is not None:
                self.assertEqual(found, expected)
            self.assertEqual(least_parting(other, one), found)

    def test_great_partings_by_pressing(self):
        """The bound of the test above is too low for some pairs, so they are pressed beside it."""
        seen = 0
        for one, other in pairs():
            found = least_parting(one, other)
            if found is not None and BOUND < found < 3000:
                seen += 1
                for n in (found - 2, found - 1):
                    self.assertEqual(oracles.plan_shape(one, n), oracles.plan_shape(other, n))
                self.assertNotEqual(oracles.plan_shape(one, found), oracles.plan_shape(other, found))
        self.assertGreater(seen, 0)

    def test_bounds(self):
        for one, other in pairs():
            n = least_parting(one, other)
            if n is None:
                continue
            common = common_beginning(one, other)
            width = 1
            for prime in common:
                width *= table_size(prime)
            m = (n - 1) // width + 1
            self.assertEqual(n, width * (m - 1) + 1)
            following = []
            for plan in (one, other):
                primes = prime_list(plan, len(common) + 1)
                following.append(table_size(primes[-1]) if len(primes) > len(common) else plan.end())
            sizes = sorted(size for size in following if isinstance(size, int))
            ends = [end for end in following if isinstance(end, str)]
            if len(sizes) == 2:
                self.assertLessEqual(m, sizes[1] + (1 if sizes[1] % sizes[0] else 0))
            elif len(sizes) == 1:
                self.assertLessEqual(m, sizes[0] + (2 if ends == ["left"] else 1))
            else:
                self.assertEqual(m, 3)

    def test_the_bounds_are_reached(self):
        left = tuple(comb(m, "left") for m in range(2, 8))
        right = tuple(comb(m, "right") for m in range(2, 8))
        self.assertEqual(least_parting(Plan((left,), (TWO,)), Plan((), "left")), 9)
        self.assertEqual(least_parting(Plan((right,), (TWO,)), Plan((), "right")), 8)
        # Up to 5 the tables of sizes 2 and 5 tell the same; a stretch of two crosses (0, 5).
        odd = (P, Q, (P, P), ((P, P), ()))
        self.assertEqual(least_parting(Plan((odd,), "left"), Plan((), (TWO,))), 6)
        six = glue(TWO, L)[:4] + (((P, P), ((), ())),)
        self.assertEqual(six, TWO_L)
        other_six = TWO_L[:4] + ((P, (P, P)),)
        self.assertEqual(least_parting(Plan((other_six,), "left"), Plan((TWO, L), "left")), 6)

    def test_numbers_of_many_digits(self):
        draw = random.Random(52)
        tables = [drawn_table(draw, 11) for _ in range(6)]
        for more in (0, 1, 6):
            one = Plan(tables, tuple(tables))
            other = Plan(tables * 2 + tables[:more], "right")
            found = least_parting(one, other)
            self.assertGreater(found, 11 ** (12 + more))
            self.assertLess(found, 11 ** (12 + more) * 12 + 1)
            self.assertEqual((found - 1) % 11 ** (12 + more), 0)
        one = Plan((), (TWO,) * 5 + (L,))
        other = Plan((), (TWO,) * 6)
        self.assertEqual(least_parting(one, other), 2 ** 5 * 3 + 1)

    def test_great_tables(self):
        """Plans that part at the last entry of a table of size 60 only."""
        even = glued([TWO, TWO, L, drawn_table(random.Random(53), 5)])
        changed = even[:-1] + (comb(60, "right"),)
        found = with_few_calls(lambda: parting(Plan((even,) * 2, "left"), Plan((even, changed), (TWO,))))
        self.assertEqual(found[0], 60 * 59 + 1)

    def test_a_common_list_that_goes_on_for_long(self):
        one = Plan((), (TWO, TWO, R))
        other = Plan((TWO, TWO, R) * 6, (TWO, TWO, R, TWO, TWO, L))
        self.assertEqual(len(common_beginning(one, other)), 18 + 5)
        self.assertEqual(least_parting(one, other), 12 ** 6 * 48 * 2 + 1)


class PartingTest(unittest.TestCase):
    def test_by_shapes(self):
        for one, other in pairs():
            n = least_parting(one, other)
            found = parting(one, other)
            if n is None:
                self.assertIs(found, None)
            else:
                self.assertIs(type(found), tuple)
                self.assertIs(type(found[1]), tuple)
                self.assertEqual(found[0], n)
                self.assertEqual(parting(other, one), found)
                if n <= 200:
                    shapes = [oracles.shape_of_text(oracles.plan_shape(plan, n)) for plan in (one, other)]
                    self.assertEqual(found[1], first_path(*shapes))

    def test_the_first_of_several_paths(self):
        """Both parts of the whole differ, the right one at a shorter path."""
        one = (((), (((), P), ())), ((), P))
        other = (((), ((Q), ())), Q)
        self.assertEqual(size_of(one), size_of(other))
        tables = [tuple(comb(m, "left") for m in range(2, 8)) + (made,) for made in (one, other)]
        self.assertEqual(size_of(one), 8)
        found = parting(Plan(tables[:1], "left"), Plan(tables[1:], "left"))
        self.assertEqual(found, (8, (0, 1, 0)))
        self.assertEqual(found[1], first_path(one, other))


class JudgePartingTest(unittest.TestCase):
    def test_right_values_and_near_misses(self):
        for one, other in pairs():
            value = parting(one, other)
            if value is not None:
                self.assertIs(judge_parting(one, other, value), True)
                self.assertIs(judge_parting(other, one, (value[0] + 0, tuple(list(value[1])))), True)
                for miss in near_misses(value):
                    self.assertIs(judge_parting(one, other, miss), False, repr(miss))

    def test_anything(self):
        deep = ()
        for _ in range(39):
            deep = (deep,)
        plan = Plan((TWO,), "left")
        for value in NO_TUPLES + ((), deep, (deep, deep), (7, deep), (deep, ()), (plan, ()), (7, plan), P, Q):
            self.assertIs(judge_parting(plan, Plan((), (TWO,)), value), False, repr(value))

    def test_alike_plans(self):
        for one, other in (
                (Plan((), (TWO_TWO,)), Plan((), (TWO,))), (Plan((), "left"), Plan((), "left")),
                (Plan((TWO, L), "right"), Plan((TWO_L,), "right"))):
            for value in NO_TUPLES + ((), (None, None), (3, ()), (1, ()), (0, ()), (7, (0,)), (None, ()), (4, (1,))):
                self.assertIs(judge_parting(one, other, value), False, repr(value))


if __name__ == "__main__":
    unittest.main()

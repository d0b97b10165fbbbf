import random
import unittest

from lumpplans.errors import TooMany
from lumpplans.heights import height
from lumpplans.lumps import all_lumps
from lumpplans.plans import Plan
from lumpplans.shapes import comb
from lumpplans.sizes import count_of_size, lump_sizes
from tests.samples import TWO, L, R, TWO_TWO, check_new_list, with_few_calls
from tests.test_digits import great_plans
from tests.test_heights import plans
from tests.test_pressing import EXAMPLE

GREAT = 10 ** 30


def sizes_by_listing(plan, n):
    found = {}
    for i, j in all_lumps(plan, n):
        found[j - i] = found.get(j - i, 0) + 1
    return sorted(found.items())


class ExamplesTest(unittest.TestCase):
    def test_left(self):
        self.assertEqual(lump_sizes(EXAMPLE, 7), [(1, 7), (2, 3), (4, 1), (6, 1), (7, 1)])

    def test_right(self):
        self.assertEqual(lump_sizes(Plan((TWO,), "right"), 7), [(1, 7), (2, 3), (3, 1), (5, 1), (7, 1)])


class ListingTest(unittest.TestCase):
    def test_by_listing(self):
        for plan in plans():
            for n in list(range(1, 42)) + [59, 60, 61, 64, 65, 97, 128, 150, 199, 200]:
                expected = sizes_by_listing(plan, n)
                found = lump_sizes(plan, n)
                self.assertEqual(found, expected)
                self.assertIs(type(found[0]), tuple)
                many = dict(expected)
                for size in range(1, n + 3):
                    self.assertEqual(count_of_size(plan, n, size), many.get(size, 0))
                self.assertEqual(count_of_size(plan, n, GREAT), 0)

    def test_one_and_two_lumps(self):
        for plan in plans():
            self.assertEqual(lump_sizes(plan, 1), [(1, 1)])
            self.assertEqual(lump_sizes(plan, 2), [(1, 2), (2, 1)])

    def test_new_lists(self):
        check_new_list(self, lambda: lump_sizes(EXAMPLE, 7))


class TooManyTest(unittest.TestCase):
    def check_border(self, plan, n, sizes):
        """Check that n is the greatest number with 400 unlike sizes, if one lump more has 401."""
        self.assertEqual(lump_sizes(plan, n), sizes)
        self.assertEqual(len(sizes), 400)
        with self.assertRaises(TooMany):
            lump_sizes(plan, n + 1)

    def test_combs(self):
        for end in ("left", "right"):
            self.check_border(Plan((), end), 400, [(1, 400)] + [(size, 1) for size in range(2, 401)])

    def test_behind_a_stage(self):
        sizes = [(1, 798), (2, 399)] + [(2 * k, 1) for k in range(2, 400)]
        self.check_border(Plan((TWO,), "left"), 798, sizes)
        # One lump more ends with a lump of one place, and the sizes of "right" become odd.
        self.check_border(Plan((TWO,), "right"), 798, sizes)
        found = [(1, 797), (2, 398)] + [(2 * k + 1, 1) for k in range(1, 399)]
        self.assertEqual(lump_sizes(Plan((TWO,), "right"), 797), found)
        with self.assertRaises(TooMany):
            lump_sizes(Plan((TWO,), "right"), 800)

    def test_great_combs(self):
        for plan in (Plan((), "left"), Plan((), "right"), Plan((TWO, L), "left"), Plan((TWO_TWO, R), "right")):
            for n in (GREAT, GREAT - 1, 10 ** 10):
                with self.assertRaises(TooMany):
                    lump_sizes(plan, n)

    def test_rounds(self):
        """A great table has so many unlike sizes in its stages that there are too many."""
        deep = tuple(comb(m, "left") for m in range(2, 61))
        plan = Plan((), (deep,))
        seen = []
        for many in range(1, 12):
            n = 60 ** many
            expected = {60 ** k * size for k in range(many) for size in range(1, 61)}
            if len(expected) <= 400:
                self.assertEqual([size for size, _ in lump_sizes(plan, n)], sorted(expected))
                seen.append(many)
            else:
                with self.assertRaises(TooMany):
                    lump_sizes(plan, n)
        self.assertEqual(seen, [1, 2, 3, 4, 5, 6])
        # 7 times 59 sizes and 1 are 414; of the last stage 45 are left out for 46 lumps.
        self.assertEqual(len(lump_sizes(plan, 60 ** 6 * 46)), 400)
        with self.assertRaises(TooMany):
            lump_sizes(plan, 60 ** 6 * 47)


class CountTest(unittest.TestCase):
    def test_great_combs(self):
        left = Plan((TWO,), "left")
        right = Plan((TWO,), "right")
        n = GREAT - 1
        for size, of_left, of_right in (
                (1, n, n), (2, n // 2, n // 2), (3, 0, 1), (4, 1, 0), (5, 0, 1), (10 ** 29, 1, 0), (10 ** 29 + 1, 0, 1),
                (n, 1, 1), (n - 1, 1, 0), (n - 2, 0, 1), (n + 1, 0, 0)):
            self.assertEqual(count_of_size(left, n, size), of_left)
            self.assertEqual(count_of_size(right, n, size), of_right)

    def test_great_round(self):
        plan = Plan((), (TWO,))
        for k in range(100):
            self.assertEqual(count_of_size(plan, 2 ** 99, 2 ** k), 2 ** (99 - k))
            self.assertEqual(count_of_size(plan, 2 ** 99, 2 ** k * 3), 0)
        self.assertEqual(count_of_size(plan, 2 ** 98 + 1, 2 ** 98 + 1), 1)

    def test_great_numbers(self):
        draw = random.Random(95)
        listed = 0
        for one, other in great_plans():
            for n in (GREAT, GREAT - 1, 2 ** 99, draw.randrange(1, GREAT)):
                if isinstance(one.end(), str):
                    with self.assertRaises(TooMany):
                        lump_sizes(one, n)
                else:
                    found = lump_sizes(one, n)
                    listed += 1
                    self.assertEqual(found, lump_sizes(other, n))
                    self.assertEqual(sum(many for _, many in found), 2 * n - 1)
                    self.assertEqual([size for size, _ in found], sorted({size for size, _ in found}))
                    self.assertTrue(len(found) > height(one, n))
                    for size, many in found:
                        self.assertEqual(count_of_size(one, n, size), many)
                for size in [1, 2, 3, 6, n, n - 1, n // 2] + [draw.randrange(1, n) for _ in range(20)]:
                    self.assertEqual(count_of_size(one, n, size), count_of_size(other, n, size))
        self.assertGreater(listed, 0)

    def test_few_calls(self):
        deep = tuple(comb(m, "right") for m in range(2, 61))
        for plan in (Plan((), (TWO,)), Plan((deep, deep), "left"), Plan((), (L, R)), Plan((deep,) * 6, "right")):
            with_few_calls(lambda: count_of_size(plan, GREAT, 60))
        with_few_calls(lambda: lump_sizes(Plan((), (TWO,)), GREAT))


if __name__ == "__main__":
    unittest.main()

"""What the modules tell of one plan, beside one another."""

import random
import unittest

from lumpplans.cheapplans import cheapest_plan, fits_shapes
from lumpplans.digits import depth, is_lump, least_lump, lump_at, path_of
from lumpplans.heights import height
from lumpplans.keeping import kept_lumps
from lumpplans.lasting import count_lasting, is_lasting, lasting, new_lasting
from lumpplans.lengths import fewest_lengths
from lumpplans.lumps import all_lumps
from lumpplans.numbering import prime_number, prime_of, table_number, table_of
from lumpplans.parting import least_parting
from lumpplans.plainforms import are_alike, plain
from lumpplans.plans import Plan
from lumpplans.plantexts import plan_text, read_plan, read_shape, read_table, shape_text, table_text
from lumpplans.pressing import shape
from lumpplans.primes import is_prime_table
from lumpplans.readback import entries_told, fits_shape
from lumpplans.seencuts import seen_cuts
from lumpplans.shapecounts import count_shapes, shape_number, shape_of
from lumpplans.shapes import paths_of, shape_height, size_of
from lumpplans.sizes import lump_sizes
from lumpplans.stores import store
from lumpplans.tablecounts import count_primes, count_tables
from lumpplans.worths import lump_worths, plan_worth, shape_worth
from tests import oracles
from tests.growing import growing_plans, parts_at
from tests.samples import near_plans, shapes_of, tables_of, told_otherwise

NUMBERS = (1, 2, 3, 5, 8, 13, 21, 34)


class WholeProgramTest(unittest.TestCase):
    def test_texts_are_read_back(self):
        for plan in growing_plans():
            self.assertEqual(read_plan(plan_text(plan)), plan)
            self.assertEqual(read_plan(plan_text(plain(plan))), plain(plan))
            for table in plan.tables():
                self.assertEqual(read_table(table_text(table)), table)
            for n in NUMBERS:
                made = shape(plan, n)
                self.assertEqual(read_shape(shape_text(made)), made)

    def test_digits_tell_what_pressed_shapes_show(self):
        for plan in growing_plans(8):
            for n in NUMBERS:
                made = shape(plan, n)
                parts = parts_at(plan, n)
                lumps = all_lumps(plan, n)
                self.assertEqual(oracles.text_of(made), parts[(0, n)])
                self.assertEqual(sorted(lumps), sorted(parts))
                self.assertEqual(size_of(made), n)
                self.assertEqual(height(plan, n), shape_height(made))
                sizes = {}
                for i, j in lumps:
                    self.assertIs(is_lump(plan, n, i, j), True)
                    self.assertEqual(lump_at(plan, n, path_of(plan, n, i, j)), (i, j))
                    self.assertEqual(least_lump(plan, n, i, j - 1), (i, j))
                    sizes[j - i] = sizes.get(j - i, 0) + 1
                self.assertEqual(lump_sizes(plan, n), sorted(sizes.items()))
                for place, path in enumerate(paths_of(made)):
                    self.assertEqual(path_of(plan, n, place, place + 1), path)
                    self.assertEqual(depth(plan, n, place), len(path))

    def test_counts_and_numbers_are_those_of_lists(self):
        for m in range(1, 8):
            shapes = shapes_of(m)
            self.assertEqual(count_shapes(m), len(shapes))
            self.assertEqual([shape_of(m, number) for number in range(len(shapes))], shapes)
            self.assertEqual([shape_number(made) for made in shapes], list(range(len(shapes))))
        for size in (2, 3, 4, 5):
            tables = list(tables_of(size))
            primes = [table for table in tables if is_prime_table(table)]
            self.assertEqual((count_tables(size), count_primes(size)), (len(tables), len(primes)))
            self.assertEqual([table_of(size, number) for number in range(len(tables))], tables)
            self.assertEqual([table_number(table) for table in tables], list(range(len(tables))))
            self.assertEqual([prime_of(size, number) for number in range(len(primes))], primes)
            self.assertEqual([prime_number(table) for table in primes], list(range(len(primes))))

    def test_lasting_lumps_and_stores_are_those_of_later_rows(self):
        for plan in growing_plans(8):
            before = []
            for n in range(1, 40):
                found = lasting(plan, n)
                self.assertEqual([lump for lump in before if lump not in found], [])
                self.assertEqual(new_lasting(plan, n + 1), [x for x in lasting(plan, n + 1) if x not in found])
                self.assertEqual(kept_lumps(plan, n), [(i, j) for i, j in found if j - i > 1])
                self.assertEqual(count_lasting(plan, n), n - len(store(plan, n)))
                later = parts_at(plan, n + 37)
                now = parts_at(plan, n)
                for lump in found:
                    self.assertEqual(later[lump], now[lump])
                for lump in store(plan, n):
                    self.assertIn(lump, found)
                    self.assertIs(is_lasting(plan, n + 37, *lump), True)
                before = found

    def test_plans_that_tell_the_same(self):
        draw = random.Random(240)
        for plan in growing_plans(8):
            for other in told_otherwise(draw, plan) + near_plans(draw, plan):
                n = least_parting(plan, other)
                self.assertIs(are_alike(plan, other), n is None)
                if n is None:
                    self.assertEqual([lasting(plan, m) for m in NUMBERS], [lasting(other, m) for m in NUMBERS])
                elif n <= 60:
                    shapes = [shape(plan, m) for m in range(1, n + 1)]
                    self.assertIs(fits_shapes(other, shapes[:-1]), True)
                    self.assertIs(fits_shapes(other, shapes), False)

    def test_plans_are_told_back(self):
        for plan in growing_plans(12):
            sizes = [len(table) + 1 for table in plan.tables()]
            shapes = [shape(plan, n) for n in range(1, 31)]
            self.assertIs(fits_shapes(cheapest_plan(shapes), shapes), True)
            width = 1
            for size in sizes:
                width *= size
                if width <= 30:
                    self.assertIn(width, seen_cuts(shapes))
            if isinstance(plan.end(), str):
                lengths = fewest_lengths(sizes)
                for n in NUMBERS:
                    self.assertIs(fits_shape(sizes, plan.end(), n, shape(plan, n)), True)
                if max(lengths, default=0) <= 60:
                    pairs = [(n, shape(plan, n)) for n in lengths]
                    self.assertEqual(Plan([tuple(told) for told in entries_told(sizes, plan.end(), pairs)], plan.end()), plan)

    def test_worths_of_rows_and_shapes(self):
        draw = random.Random(241)
        rule = (3, 7, 5, 1000)
        for plan in growing_plans(8):
            for n in NUMBERS:
                things = [draw.randrange(1000) for _ in range(n)]
                worth = plan_worth(rule, plan, things)
                self.assertEqual(worth, shape_worth(rule, shape(plan, n), things))
                self.assertEqual([lump for lump, _ in lump_worths(rule, plan, things)], all_lumps(plan, n))


if __name__ == "__main__":
    unittest.main()

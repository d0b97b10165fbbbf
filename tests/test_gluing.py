import random
import unittest

from lumpplans.gluing import glue, glued, is_shape_lump, lump_part, stretches
from lumpplans.shapes import comb, part_at, paths_of
from lumpplans.tables import entry, is_table, table_size
from tests import oracles
from tests.samples import (
    P, Q, TWO, L, R, TWO_TWO, TWO_L, check_new_list, drawn_shape, drawn_table, shapes_of,
    with_few_calls,
)


class StretchesTest(unittest.TestCase):
    def test_last_one_short_or_full(self):
        self.assertEqual(stretches(7, 3), [(0, 3), (3, 6), (6, 7)])
        self.assertEqual(stretches(8, 3), [(0, 3), (3, 6), (6, 8)])
        self.assertEqual(stretches(9, 3), [(0, 3), (3, 6), (6, 9)])
        self.assertEqual(stretches(2, 3), [(0, 2)])
        self.assertEqual(stretches(3, 3), [(0, 3)])
        self.assertEqual(stretches(1, 1), [(0, 1)])
        self.assertEqual(stretches(3, 1), [(0, 1), (1, 2), (2, 3)])
        self.assertEqual(stretches(1, 10000), [(0, 1)])

    def test_all_small_ones(self):
        for m in range(1, 40):
            for b in range(1, 42):
                self.assertEqual(stretches(m, b), oracles.pairs_of(m, b))

    def test_greatest(self):
        self.assertEqual(stretches(10000, 1), [(k, k + 1) for k in range(10000)])
        self.assertEqual(stretches(10000, 10000), [(0, 10000)])
        self.assertEqual(stretches(10000, 9999), [(0, 9999), (9999, 10000)])

    def test_new_lists(self):
        check_new_list(self, lambda: stretches(7, 3))


class GlueTest(unittest.TestCase):
    def test_examples(self):
        self.assertEqual(glue(TWO, TWO), TWO_TWO)
        self.assertEqual(glue(TWO, L), TWO_L)
        self.assertEqual(glue(L, TWO), (P, Q, (Q, ()), (Q, P), (Q, Q)))

    def test_one_table_and_then_the_other(self):
        draw = random.Random(1)
        for sizes in ((2, 2), (2, 3), (3, 2), (3, 4), (4, 3), (5, 12), (12, 5), (2, 30), (30, 2), (6, 10)):
            s, t = [drawn_table(draw, size) for size in sizes]
            made = glue(s, t)
            self.assertIs(is_table(made), True)
            self.assertEqual(table_size(made), sizes[0] * sizes[1])
            for m in range(2, table_size(made) + 1):
                row = oracles.press(t, oracles.press(s, ["o"] * m))
                self.assertEqual([oracles.text_of(entry(made, m))], row)
            self.assertEqual(made[:sizes[0] - 1], s)

    def test_pressing_with_the_glued_table(self):
        draw = random.Random(2)
        for _ in range(20):
            s, t = drawn_table(draw, draw.randint(2, 4)), drawn_table(draw, draw.randint(2, 4))
            made = glue(s, t)
            for m in range(1, 60):
                one = oracles.press(made, ["o"] * m)
                self.assertEqual(one, oracles.press(t, oracles.press(s, ["o"] * m)))

    def test_brackets(self):
        draw = random.Random(3)
        for sizes in ((2, 2, 2), (2, 3, 4), (4, 3, 5), (3, 2, 3), (5, 4, 3)):
            s, t, u = [drawn_table(draw, size) for size in sizes]
            self.assertEqual(glue(glue(s, t), u), glue(s, glue(t, u)))
            self.assertEqual(glued([s, t, u]), glue(s, glue(t, u)))

    def test_sequence_counts(self):
        self.assertNotEqual(glue(TWO, L), glue(L, TWO))
        self.assertNotEqual(glue(R, L), glue(L, R))

    def test_glued(self):
        for table in (TWO, L, R, TWO_TWO):
            self.assertEqual(glued([table]), table)
            self.assertEqual(glued((table,)), table)
        self.assertEqual(glued([TWO, L]), TWO_L)
        self.assertEqual(glued([TWO, TWO, TWO]), glue(TWO_TWO, TWO))
        self.assertEqual(glued((TWO, TWO, TWO, TWO, L)), glue(TWO_TWO, glue(TWO_TWO, L)))
        self.assertEqual(table_size(glued([TWO] * 5)), 32)

    def test_list_stays_as_it_was(self):
        tables = [TWO, L, R]
        self.assertEqual(glued(tables), glued(tables))
        self.assertEqual(tables, [TWO, L, R])

    def test_sixty_lumps(self):
        left = tuple(comb(m, "left") for m in range(2, 31))
        made = with_few_calls(lambda: glue(left, TWO))
        self.assertEqual(entry(made, 60), (comb(30, "left"), comb(30, "left")))
        self.assertEqual(entry(made, 31), (comb(30, "left"), ()))


class LumpsOfShapesTest(unittest.TestCase):
    def check_all_pairs(self, shape, reach):
        text = oracles.text_of(shape)
        found = oracles.ranges(text)
        size = text.count("o")
        many = 0
        for i in range(-reach, size + reach + 1):
            for j in range(-reach, size + reach + 1):
                part = lump_part(shape, i, j)
                self.assertIs(is_shape_lump(shape, i, j), (i, j) in found)
                if (i, j) in found:
                    start, end = found[(i, j)]
                    self.assertEqual(oracles.text_of(part), text[start:end])
                    many += 1
                else:
                    self.assertIs(part, None)
        self.assertEqual(many, 2 * size - 1)

    def test_small_shapes(self):
        for size in range(1, 6):
            for shape in shapes_of(size):
                self.check_all_pairs(shape, 3)

    def test_greater_shapes(self):
        draw = random.Random(4)
        for size in (10, 17, 60):
            self.check_all_pairs(drawn_shape(draw, size), 2)
        self.check_all_pairs(comb(60, "left"), 1)
        self.check_all_pairs(comb(60, "right"), 1)

    def test_parts_at_paths(self):
        shape = (Q, (P, Q))
        for place, path in enumerate(paths_of(shape)):
            self.assertEqual(lump_part(shape, place, place + 1), part_at(shape, path))
        self.assertEqual(lump_part(shape, 0, 3), Q)
        self.assertEqual(lump_part(shape, 3, 8), (P, Q))
        self.assertEqual(lump_part(shape, 0, 8), shape)

    def test_no_lumps(self):
        for pair in ((0, 0), (1, 1), (3, 3), (1, 0), (2, 1), (-1, 0), (-1, 1), (-3, -1), (-1, 3), (0, 4),
                     (3, 4), (0, 10 ** 40), (-10 ** 40, 3), (1, 3)):
            self.assertIs(is_shape_lump(Q, *pair), False, pair)
            self.assertIs(lump_part(Q, *pair), None, pair)


if __name__ == "__main__":
    unittest.main()

import random
import unittest

from lumpplans.cuts import behind, counter, cuts, is_cut, judge_counter
from lumpplans.errors import NoCut
from lumpplans.gluing import glue, glued
from lumpplans.plans import Plan
from lumpplans.tables import table_size
from tests import oracles
from tests.samples import (
    NO_TUPLES, P, Q, TWO, L, R, TWO_TWO, TWO_L, PRIME_SIX, check_new_list, drawn_shape, drawn_table,
    exchanged, tables_of,
)

L_TWO = (P, Q, (Q, ()), (Q, P), (Q, Q))


def drawn_tables():
    """Return tables that have cuts, and some that nearly have them."""
    draw = random.Random(5)
    found = [TWO, L, R, TWO_TWO, TWO_L, L_TWO, PRIME_SIX]
    for sizes in ((2, 2), (2, 3), (3, 2), (2, 4), (4, 2), (3, 3), (2, 2, 2), (2, 3, 2), (2, 2, 3), (5, 2)):
        made = glued([drawn_table(draw, size) for size in sizes])
        found.append(made)
        found.extend(exchanged(draw, made) for _ in range(3))
    found.extend(drawn_table(draw, size) for size in (5, 6, 7, 8, 9, 12))
    return found


def near_values(table, b):
    """Return values of the forms of counters, right ones and others, as a list."""
    size = table_size(table)
    made = [("size",)]
    for kind in ("lump", "shape", "above"):
        for m in range(-1, size + 3):
            made.extend((kind, m, last) for last in range(-1, size + 3))
    return made


class ExamplesTest(unittest.TestCase):
    def test_primes_of_two_and_three(self):
        for table in (TWO, L, R):
            self.assertEqual(cuts(table), [])

    def test_size_four(self):
        self.assertEqual([table for table in tables_of(4) if cuts(table)], [TWO_TWO])
        self.assertEqual(cuts(TWO_TWO), [2])
        self.assertEqual(behind(TWO_TWO, 2), TWO)

    def test_two_glued_to_l(self):
        self.assertEqual(cuts(TWO_L), [2])
        self.assertEqual(behind(TWO_L, 2), L)
        self.assertIs(is_cut(TWO_L, 3), False)

    def test_l_glued_to_two(self):
        self.assertEqual(cuts(L_TWO), [3])
        self.assertEqual(behind(L_TWO, 3), TWO)
        self.assertIs(judge_counter(L_TWO, 2, ("lump", 4, 1)), True)
        self.assertIs(counter(L_TWO, 3), None)

    def test_a_prime_of_size_six(self):
        self.assertEqual(cuts(PRIME_SIX), [])
        self.assertIs(judge_counter(PRIME_SIX, 2, ("above", 5, 6)), True)
        self.assertIs(judge_counter(PRIME_SIX, 3, ("lump", 4, 0)), True)
        self.assertEqual(counter(PRIME_SIX, 2), ("above", 5, 6))
        self.assertEqual(oracles.counters(PRIME_SIX, 2), [("above", 5, 6)])


class CutsTest(unittest.TestCase):
    def test_by_gluing(self):
        for table in drawn_tables():
            size = table_size(table)
            found = []
            for b in range(2, size):
                rest = oracles.behind(table, b)
                self.assertIs(is_cut(table, b), rest is not None)
                if rest is not None:
                    found.append(b)
                    self.assertEqual(behind(table, b), rest)
                    self.assertIs(counter(table, b), None)
                    self.assertEqual(glue(table[:b - 1], behind(table, b)), table)
                else:
                    with self.assertRaises(NoCut) as caught:
                        behind(table, b)
                    self.assertIs(judge_counter(table, b, caught.exception.counter), True)
            self.assertEqual(cuts(table), found)

    def test_glued_tables(self):
        draw = random.Random(6)
        for sizes in ((2, 2), (3, 4), (2, 30), (30, 2), (2, 2, 3), (5, 3, 4), (2, 3, 2, 5), (3, 2, 5, 2)):
            tables = [drawn_table(draw, size) for size in sizes]
            table = glued(tables)
            product = 1
            for k in range(1, len(tables)):
                product *= sizes[k - 1]
                self.assertIs(is_cut(table, product), True)
                self.assertIn(product, cuts(table))
                self.assertEqual(behind(table, product), glued(tables[k:]))

    def test_cuts_divide_one_another(self):
        for table in drawn_tables():
            found = cuts(table)
            for one, other in zip(found, found[1:]):
                self.assertEqual(other % one, 0)

    def test_is_cut_of_anything(self):
        for table in (TWO, TWO_TWO, TWO_L, L_TWO):
            size = table_size(table)
            for b in NO_TUPLES + ((), (2,), "2", "size", -2, -3, 0, 1, size, size + 1, 2 * size, -10 ** 40, P):
                if b != 2 or isinstance(b, bool):
                    self.assertIs(is_cut(table, b), False, repr(b))
        self.assertIs(is_cut(TWO_TWO, 2), True)
        self.assertIs(is_cut(TWO_TWO, 4), False)
        self.assertIs(is_cut(TWO_TWO, 3), False)
        self.assertIs(is_cut(TWO, 1), False)
        self.assertIs(is_cut(TWO, True), False)

    def test_new_lists(self):
        check_new_list(self, lambda: cuts(TWO_TWO))
        check_new_list(self, lambda: cuts(TWO))


class CountersTest(unittest.TestCase):
    def test_counter_is_one(self):
        for table in drawn_tables():
            for b in range(2, table_size(table)):
                right = oracles.counters(table, b)
                found = counter(table, b)
                if found is None:
                    self.assertEqual(right, [])
                else:
                    self.assertIs(type(found), tuple)
                    self.assertIn(found, right)
                    self.assertIs(judge_counter(table, b, found), True)

    def test_judge_each_value_of_the_forms(self):
        kinds = set()
        tables = list(tables_of(4)) + [table for table in drawn_tables() if table_size(table) <= 8]
        for table in tables:
            for b in range(2, table_size(table)):
                right = oracles.counters(table, b)
                kinds.update(value[0] for value in right)
                for value in near_values(table, b):
                    self.assertIs(judge_counter(table, b, value), value in right, (table, b, value))
        self.assertEqual(kinds, {"size", "lump", "shape", "above"})

    def test_size(self):
        self.assertIs(judge_counter(TWO_L, 4, ("size",)), True)
        self.assertIs(judge_counter(TWO_L, 3, ("size",)), False)
        self.assertIs(judge_counter(TWO_L, 2, ("size",)), False)
        for value in (["size"], ("size", 4), ("size", 2, 0), "size", ("sizes",), ("Size",), (("size",),)):
            self.assertIs(judge_counter(TWO_L, 4, value), False)

    def test_other_kinds_where_b_does_not_divide(self):
        right = oracles.counters(PRIME_SIX, 4)
        self.assertGreater(len(right), 1)
        for value in right:
            self.assertIs(judge_counter(PRIME_SIX, 4, value), True)

    def test_near_misses(self):
        self.assertIs(judge_counter(L_TWO, 2, ("lump", 4, 1)), True)
        for value in (
                ("lump", 4, 0), ("lump", 4, 2), ("lump", 4, -1), ("lump", 3, 1), ("lump", 2, 0), ("lump", 1, 0),
                ("lump", 7, 1), ("lump", 0, 0), ("lump", -4, 1), ("shape", 4, 1), ("above", 4, 1), ("size",),
                ("lump", 4, True), ("lump", True, 1), ("lump", "4", 1), ("lump", 4, "1"), ("lump", 4, None),
                ["lump", 4, 1], ("lump", 4), ("lump", 4, 1, 1), ("lump", 4, 1, 0, 0), ("lump",), (4, 1),
                ("lump", [4], 1), ("lump", (4,), 1), ("Lump", 4, 1), ("", 4, 1), (None, 4, 1), (["lump"], 4, 1),
                ("lump", 10 ** 40, 1), ("lump", 4, 10 ** 40), (("lump", 4, 1),), ("lump", (4, 1))):
            self.assertIs(judge_counter(L_TWO, 2, value), False, repr(value))

    def test_near_misses_of_shape(self):
        table = (P, (P, ()), ((P, ()), ()), (((P, ()), ()), ()), (((), P), (P, ())))
        self.assertIs(judge_counter(table, 3, ("shape", 6, 0)), True)
        for value in (("shape", 6, 1), ("lump", 6, 0), ("shape", 6, False), ("shape", 6, 2), ["shape", 6, 0],
                      ("shape", 5, 0), ("shape", 6, 0, 0), ("shape", 7, 0), ("shape", 6, -2), ("shape", 6, -1)):
            self.assertIs(judge_counter(table, 3, value), False, repr(value))

    def test_near_misses_of_above(self):
        self.assertIs(judge_counter(PRIME_SIX, 2, ("above", 5, 6)), True)
        for value in (("above", 6, 5), ("above", 5, 5), ("above", 6, 6), ("above", 4, 6), ("above", 4, 5),
                      ("above", 3, 4), ("above", 5, 7), ("above", 5, -6), ("above", 1, 2), ("above", True, 2),
                      ("above", 5, 6, 0), ["above", 5, 6], ("above", 5, "6"), ("above", 5, None),
                      ("size", 5, 6), ("lump", 5, 6), ("shape", 5, 6), ("", 5, 6), (None, 5, 6), (True, 5, 6)):
            self.assertIs(judge_counter(PRIME_SIX, 2, value), False, repr(value))

    def test_above_where_a_stretch_is_wrong(self):
        table = (P, Q, (P, P), (P, ((), P)), (P, (P, P)))
        self.assertIn(("lump", 5, 1), oracles.counters(table, 2))
        self.assertIs(judge_counter(table, 2, ("above", 5, 6)), False)

    def test_judge_of_anything(self):
        deep = ()
        for _ in range(69):
            deep = (deep,)
        values = NO_TUPLES + ((), (P,), P, Q, deep, (deep, deep, deep), ("lump", deep, 1), ["size"], [("size",)],
                              (Plan((), "left"), 4, 1), ("lump", Plan((), "left"), 1), ("lump",) * 3)
        for value in values:
            for b in (2, 3, 4, 5):
                self.assertIs(judge_counter(L_TWO, b, value), False, repr(value))

    def test_a_cut_has_none(self):
        for table, b in ((TWO_TWO, 2), (TWO_L, 2), (L_TWO, 3)):
            for value in near_values(table, b) + list(NO_TUPLES):
                self.assertIs(judge_counter(table, b, value), False, repr(value))

    def test_great_tables(self):
        draw = random.Random(7)
        made = glued([drawn_table(draw, size) for size in (3, 4, 5)])
        for k in (5, 20, 40, 58):
            table = made[:k] + (drawn_shape(draw, k + 2),) + made[k + 1:]
            for b in range(2, 60):
                right = oracles.counters(table, b)
                found = counter(table, b)
                self.assertTrue(found in right if right else found is None)


if __name__ == "__main__":
    unittest.main()

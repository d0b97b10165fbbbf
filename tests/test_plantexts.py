import random
import unittest

from lumpplans.errors import BadPlan, BadTable, BadText
from lumpplans.plans import Plan
from lumpplans.plantexts import (
    plan_text, read_plan, read_shape, read_table, shape_text, table_text,
)
from lumpplans.shapes import comb
from tests.samples import (
    P, Q, TWO, R, drawn_plan, drawn_shape, drawn_table, shapes_of, with_few_calls,
)

TABLE_TEXT = "table {\n(o o);\n((o o) o);\n}\n"
ROUND_TEXT = "plan {\nround {\ntable {\n(o o);\n}\n}\n}\n"
LEFT_TEXT = "plan {\ntable {\n(o o);\n}\nleft;\n}\n"


class WrittenTest(unittest.TestCase):
    def test_examples(self):
        self.assertEqual(shape_text(()), "o")
        self.assertEqual(shape_text(P), "(o o)")
        self.assertEqual(shape_text(Q), "((o o) o)")
        self.assertEqual(table_text(R), "table {\n(o o);\n(o (o o));\n}\n")
        self.assertEqual(table_text((P, Q)), TABLE_TEXT)
        self.assertEqual(plan_text(Plan((), (TWO,))), ROUND_TEXT)
        self.assertEqual(plan_text(Plan((TWO,), "left")), LEFT_TEXT)

    def test_other_ends(self):
        self.assertEqual(plan_text(Plan((), "right")), "plan {\nright;\n}\n")
        self.assertEqual(plan_text(Plan((), "left")), "plan {\nleft;\n}\n")
        two = "table {\n(o o);\n}\n"
        other = "table {\n(o o);\n(o (o o));\n}\n"
        self.assertEqual(
            plan_text(Plan([TWO, R], (R, TWO, TWO))),
            "plan {\n" + two + other + "round {\n" + other + two + two + "}\n}\n")

    def test_written_texts_are_read(self):
        for text, plan in ((ROUND_TEXT, Plan((), (TWO,))), (LEFT_TEXT, Plan([TWO], "left"))):
            self.assertEqual(read_plan(text), plan)
        self.assertEqual(read_table(TABLE_TEXT), (P, Q))
        self.assertEqual(read_shape("((o o) o)"), Q)


class ThereAndBackTest(unittest.TestCase):
    def test_shapes(self):
        for size in range(1, 7):
            for shape in shapes_of(size):
                self.assertEqual(read_shape(shape_text(shape)), shape)
        draw = random.Random(1)
        for size in range(10, 61):
            shape = drawn_shape(draw, size)
            self.assertEqual(read_shape(shape_text(shape)), shape)

    def test_combs(self):
        for side in ("left", "right"):
            made = comb(60, side)
            text = with_few_calls(lambda: shape_text(made))
            self.assertEqual(with_few_calls(lambda: read_shape(text)), made)
        self.assertEqual(shape_text(comb(60, "left")), "(" * 59 + "o" + " o)" * 59)

    def test_tables(self):
        draw = random.Random(2)
        for size in tuple(range(2, 13)) + (60,):
            table = drawn_table(draw, size)
            self.assertEqual(read_table(table_text(table)), table)

    def test_plans(self):
        draw = random.Random(3)
        for _ in range(60):
            plan = drawn_plan(draw)
            self.assertEqual(read_plan(plan_text(plan)), plan)
            self.assertEqual(plan_text(read_plan(plan_text(plan))), plan_text(plan))

    def test_kinds(self):
        self.assertIs(type(read_shape("(o o)")), tuple)
        self.assertIs(type(read_table(TABLE_TEXT)), tuple)
        plan = read_plan(LEFT_TEXT)
        self.assertIs(type(plan), Plan)
        self.assertIs(type(plan.tables()), tuple)
        self.assertIs(type(read_plan(ROUND_TEXT).end()), tuple)


class GapsTest(unittest.TestCase):
    def test_shapes(self):
        for text in ("((o o)o)", "( ( o o ) o )", "\n\n((o\no)o)  ", " (\n(o  o)\n\no\n)\n"):
            self.assertEqual(read_shape(text), Q)
        for text in ("o", " o", "o\n", "\n \no \n"):
            self.assertEqual(read_shape(text), ())

    def test_tables_and_plans(self):
        table = "table{(o o);((o o)o);}"
        self.assertEqual(read_table(table), (P, Q))
        self.assertEqual(read_table("\n table\n\n{ ( o o ) ; ( ( o o ) o ) ; } "), (P, Q))
        self.assertEqual(read_plan("plan{left;}"), Plan((), "left"))
        self.assertEqual(read_plan(" plan { right\n; } \n"), Plan((), "right"))
        self.assertEqual(
            read_plan("plan{" + table + table + "round{" + table + "}}"),
            Plan(((P, Q), (P, Q)), ((P, Q),)))

    def test_one_line_and_many_lines(self):
        draw = random.Random(4)
        for _ in range(20):
            plan = drawn_plan(draw)
            text = plan_text(plan)
            self.assertEqual(read_plan(text.replace("\n", "")), plan)
            self.assertEqual(read_plan(text.replace("\n", " ")), plan)
            self.assertEqual(read_plan("\n" + text.replace(" ", "\n\n") + " "), plan)


class WrongSizesTest(unittest.TestCase):
    def check_table(self, entries, path):
        text = "table {" + "; ".join(entries) + "; }"
        with self.assertRaises(BadTable) as caught:
            read_table(text)
        self.assertEqual(caught.exception.path, path)

    def check_plan(self, text, path):
        with self.assertRaises(BadPlan) as caught:
            read_plan("plan {" + text + "}")
        self.assertEqual(caught.exception.path, path)

    def test_tables(self):
        self.check_table(["o"], (0,))
        self.check_table(["((o o) o)"], (0,))
        self.check_table(["(o o)", "(o o)"], (1,))
        self.check_table(["(o o)", "((o o) o)", "((o o) o)"], (2,))
        self.check_table(["(o o)", "o", "o"], (1,))
        self.check_table(["o", "(o o)"], (0,))
        self.check_table(["((o o) o)", "(o o)", "o"], (0,))

    def test_more_entries_than_a_table_has(self):
        self.check_table(["o"] * 9990, (0,))
        self.check_table(["(o o)"] + ["o"] * 9980, (1,))
        full = [shape_text(comb(m, "left")) for m in range(2, 30)]
        self.check_table(full + ["o"] * 100, (28,))

    def test_plans(self):
        good = "table {(o o);}"
        bad = "table {(o o); (o o);}"
        worse = "table {o; o;}"
        self.check_plan(bad + "left;", (0, 0, 1))
        self.check_plan(good + worse + bad + "right;", (0, 1, 0))
        self.check_plan("round {" + bad + "}", (1, 0, 1))
        self.check_plan(good + "round {" + good + good + worse + bad + "}", (1, 2, 0))
        self.check_plan(good + bad + "round {" + worse + "}", (0, 1, 1))
        self.check_plan(good * 1000 + worse + "left;", (0, 1000, 0))

    def test_a_wrong_place_comes_first(self):
        for text in ("table {o; o", "table {o; left;}", "table {o;} o", "table {(o o o);}", "table {o;}!"):
            with self.assertRaises(BadText):
                read_table(text)
        for text in ("plan {table {o;} left;", "plan {table {o;} left}", "plan {table {o;} left;} left",
                     "plan {round {table {o;} left;}}", "plan {table {o;}}", "plan {table {o;} left;}\t"):
            with self.assertRaises(BadText):
                read_plan(text)


if __name__ == "__main__":
    unittest.main()

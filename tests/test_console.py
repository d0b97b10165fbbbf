import random
import re
import unittest

from lumpplans.console import Console
from lumpplans.errors import BadAct, BadText, NothingDone, UnknownName
from lumpplans.house import House
from lumpplans.keeping import switch
from lumpplans.plans import Plan
from lumpplans.plantexts import plan_text
from tests import oracles
from tests.growing import growing_plans
from tests.samples import TWO, L, R, TWO_TWO, told_otherwise, with_few_calls
from tests.test_house import LEFT, RIGHT, ROUND, told

ROUND_TEXT = "plan { round { table { (o o); } } }"
LEFT_TEXT = "plan { left; }"
RIGHT_TEXT = "plan { right; }"
WRONG_TEXT = "plan { table { (o o); (o o); } left; }"
PIECES = (
    "row", "rows", "grow", "keep", "a", "m", "o", "plan", "left", "0", "12", "(", ")", "{", "}", ",", ";", "A", "\t", "-",
    "abcdefghijklm", "table", "undo", "round", "none", "!", "12a")


def new_console(*lines):
    console = Console(House())
    for line in lines:
        if console.answer(line).startswith("no"):
            raise ValueError(line)
    return console


class AnswersTest(unittest.TestCase):
    def check(self, console, *pairs):
        for line, answer in pairs:
            found = console.answer(line)
            self.assertEqual(found, answer, line)
            self.assertIs(type(found), str)

    def test_example(self):
        self.check(
            new_console(), ("row a " + ROUND_TEXT, "1"), ("grow a 7", "2"), ("store a", "0-4, 4-6, 6-7"), ("kept", "4"),
            ("paid", "4"), ("grow a 1", "3"), ("paid", "7"), ("change a 5", "4"), ("anew", "3"), ("cost a " + LEFT_TEXT, "6 6"),
            ("plan a " + LEFT_TEXT, "5"), ("paid", "13"), ("lost", "6"), ("kept", "7"), ("anew", "3"), ("store a", "0-8"))

    def test_each_act(self):
        console = new_console()
        self.check(
            console, ("row a " + LEFT_TEXT, "1"), ("row b " + RIGHT_TEXT, "2"), ("rows", "a, b"), ("grow b 12", "3"),
            ("size b", "12"), ("size a", "0"), ("nail b", "4"), ("plan b " + LEFT_TEXT, "no BadAct nail"), ("free b", "5"),
            ("plan b " + LEFT_TEXT, "6"), ("change b 11", "7"), ("drop a", "8"), ("rows", "b"), ("drop b", "9"), ("rows", ""))

    def test_undo_and_redo(self):
        console = new_console()
        self.check(
            console, ("undo", "no NothingDone"), ("redo", "no NothingDone"), ("row a " + LEFT_TEXT, "1"), ("grow a 3", "2"),
            ("redo", "no NothingDone"), ("undo", "1"), ("size a", "0"), ("undo", "0"), ("undo", "no NothingDone"), ("redo", "1"),
            ("redo", "2"), ("size a", "3"), ("undo", "1"), ("grow a 9", "2"), ("redo", "no NothingDone"), ("size a", "9"))

    def test_refused_acts(self):
        console = new_console("row a " + ROUND_TEXT, "grow a 5", "row b " + LEFT_TEXT, "nail b")
        self.check(
            console, ("row a " + LEFT_TEXT, "no BadAct name"), ("grow z 1", "no BadAct name"), ("grow a 0", "no BadAct many"),
            ("grow a 196", "no BadAct full"), ("grow a " + "9" * 40, "no BadAct full"), ("change a 5", "no BadAct place"),
            ("change z 0", "no BadAct name"), ("plan b " + ROUND_TEXT, "no BadAct nail"), ("nail b", "no BadAct nail"),
            ("free a", "no BadAct nail"), ("drop b", "no BadAct nail"), ("drop z", "no BadAct name"), ("nail z", "no BadAct name"),
            ("free z", "no BadAct name"), ("plan z " + LEFT_TEXT, "no BadAct name"))
        for k in range(6):
            console.answer(f"row r{k} {LEFT_TEXT}")
        self.check(console, ("row c " + LEFT_TEXT, "no BadAct full"), ("rows", "a, b, r0, r1, r2, r3, r4, r5"))

    def test_plans_with_entries_of_wrong_sizes(self):
        console = new_console("row a " + ROUND_TEXT, "row b " + LEFT_TEXT, "nail b")
        for text in (WRONG_TEXT, "plan { table { o; } left; }", "plan { round { table { (o o); } table { ((o o) o); } } }",
                     "plan { table { (o o); } round { table { o; } } }"):
            self.check(
                console, ("row c " + text, "no BadAct plan"), ("row a " + text, "no BadAct name"),
                ("plan a " + text, "no BadAct plan"), ("plan b " + text, "no BadAct plan"), ("plan z " + text, "no BadAct name"),
                ("cost a " + text, "none"), ("cost b " + text, "none"), ("cost z " + text, "no UnknownName"))
            # A wrong place comes ahead of all else.
            for word in ("row c", "plan a", "cost z"):
                line = f"{word} {text} }}"
                self.check(console, (line, f"no BadText {len(line) - 1}"))

    def test_120_acts(self):
        console = new_console("row a " + LEFT_TEXT)
        for many in range(2, 121):
            self.check(console, ("grow a 1", str(many)))
        self.check(
            console, ("grow a 1", "no BadAct full"), ("grow a 0", "no BadAct many"), ("row b " + LEFT_TEXT, "no BadAct full"),
            ("row b " + WRONG_TEXT, "no BadAct plan"), ("kept", "118"), ("undo", "119"), ("grow a 1", "120"))

    def test_marks(self):
        console = new_console("row a " + ROUND_TEXT, "grow a 5", "row b " + LEFT_TEXT)
        self.check(
            console, ("keep m a", "1"), ("keep n a", "2"), ("keep m b", "2"), ("keep m a", "2"), ("keep m z", "no UnknownName"),
            ("keep z z", "no UnknownName"), ("since m", "none"), ("since z", "no UnknownName"), ("since a", "no UnknownName"),
            ("grow a 2", "4"), ("since m", "0-4, 4-5, 5-6, 6-7"), ("undo", "3"), ("since m", "none"), ("redo", "4"),
            ("plan a " + LEFT_TEXT, "5"), ("since m", "none"), ("drop a", "6"), ("since m", "none"), ("keep keep b", "3"))

    def test_unknown_names(self):
        console = new_console("row a " + ROUND_TEXT)
        for line in ("size z", "store z", "cost z " + LEFT_TEXT, "since z", "keep m z", "size undo", "store store"):
            self.check(console, (line, "no UnknownName"))

    def test_empty_answers(self):
        console = new_console()
        self.check(console, ("rows", ""), ("row a " + ROUND_TEXT, "1"), ("store a", ""), ("kept", "0"), ("paid", "0"), ("anew", "0"),
                   ("lost", "0"), ("cost a " + LEFT_TEXT, "0 0"), ("grow a 1", "2"), ("store a", "0-1"))

    def test_cost_of_a_nailed_row(self):
        console = new_console("row a " + ROUND_TEXT, "grow a 8", "nail a")
        self.check(console, ("cost a " + LEFT_TEXT, "6 6"), ("cost a " + RIGHT_TEXT, "0 7"), ("cost a " + ROUND_TEXT, "0 0"),
                   ("size a", "8"), ("paid", "7"), ("lost", "0"))

    def test_words_of_the_forms_are_names(self):
        console = new_console()
        for k, word in enumerate(("row", "plan", "undo", "o", "left", "table", "abcdefghijkl", "a0"), start=1):
            self.check(console, (f"row {word} {LEFT_TEXT}", str(k)))
            self.check(console, (f"size {word}", "0"))
            self.check(console, (f"keep {word} {word}", str(k)))
        self.check(console, ("rows", "row, plan, undo, o, left, table, abcdefghijkl, a0"))

    def test_costs_of_drawn_plans(self):
        draw = random.Random(230)
        for plan in growing_plans(4):
            n = draw.randint(1, 60)
            console = new_console("row a " + plan_text(plan), f"grow a {n}")
            for other in growing_plans(2) + told_otherwise(draw, plan):
                cost, loss = switch(plan, other, n)
                line = "cost a " + plan_text(other)
                if len(line) <= 2000:
                    self.check(console, (line, f"{cost} {loss}"))

    def test_gaps(self):
        for line in ("row\na\nplan{left;}", " \n row  a\n\nplan { left ; } ", "row a plan{left;}", "row a12 plan\n{left\n;\n}\n"):
            self.check(new_console(), (line, "1"))
        # Words and numbers need a gap between them, and a12plan is one word.
        for line, place in (("rowa" + LEFT_TEXT, 0), ("row a12" + LEFT_TEXT, 12), ("rows" + "kept", 0)):
            self.check(new_console(), (line, f"no BadText {place}"))
        console = new_console("row a " + LEFT_TEXT)
        self.check(console, ("grow a\n12", "2"), ("\ngrow\na 3\n", "3"), (" rows ", "a"), ("kept\n", "14"), ("size a ", "15"),
                   ("grow a12", "no BadText 8"), ("grow a 12a", "no BadText 9"), ("grow a 012", "no BadText 8"), ("change a 0", "4"),
                   ("row c12plan{left;}", "no BadText 11"), ("row c plan{table{(o o);}left;}", "5"), ("cost a plan{left;}", "0 0"))
        # No gap is needed between a sign and what is beside it.
        self.check(console, ("grow(a", "no BadText 4"), ("plan a plan{round{table{(o o);((o o)o);}}}", "6"))

    def test_two_consoles(self):
        house = House()
        one, other = Console(house), Console(house)
        self.check(one, ("row a " + ROUND_TEXT, "1"))
        self.check(other, ("grow a 7", "2"), ("keep m a", "1"))
        self.check(one, ("size a", "7"), ("grow a 1", "3"))
        self.check(other, ("since m", "0-4, 4-6, 6-7, 7-8"), ("undo", "2"))
        self.check(one, ("size a", "7"), ("redo", "3"))
        house.do(("nail", "a"))
        self.check(other, ("nail a", "no BadAct nail"))
        self.assertEqual(house.done(), [("row", "a", ROUND), ("grow", "a", 7), ("grow", "a", 1), ("nail", "a")])
        twin = Console(house.twin())
        self.check(twin, ("grow a 2", "5"))
        self.check(one, ("size a", "8"))

    def test_acts_of_lines(self):
        """The members of the acts are those that the line tells."""
        house = House()
        console = Console(house)
        for line in ("row a " + plan_text(Plan((L,), (R, TWO))), "grow a 9", "change a 0", "plan a " + LEFT_TEXT, "nail a", "free a",
                     "drop a"):
            console.answer(line)
        self.assertEqual(house.done(), [
            ("row", "a", Plan((L,), (R, TWO))), ("grow", "a", 9), ("change", "a", 0), ("plan", "a", LEFT), ("nail", "a"),
            ("free", "a"), ("drop", "a")])


class WrongPlacesTest(unittest.TestCase):
    def check_line(self, line, place):
        house = House()
        console = Console(house)
        console.answer("row a " + ROUND_TEXT)
        before = told(house)
        self.assertEqual(console.answer(line), f"no BadText {place}", repr(line))
        self.assertEqual(told(house), before)
        self.assertEqual(oracles.wrong_place("LINE", line), place, repr(line))

    def test_lines(self):
        for line, place in (
                ("", 0), ("   ", 3), (" \n", 2), ("!", 0), ("a", 0), ("row", 3), ("row ", 4), ("row a", 5), ("row 1", 4),
                ("row a plan", 10), ("row a b", 6), ("row a 1", 6), ("Row a", 0), ("rowsa", 0), ("rows a", 5), ("grow a", 6),
                ("grow a b", 7), ("grow a 1 1", 9), ("grow a -1", 7), ("grow a 1.5", 8), ("grow 1 a", 5), ("change a o", 9),
                ("plan a plan { left }", 19), ("plan { left; }", 5), ("nail", 4), ("nail a b", 7), ("free a;", 6), ("drop {", 5),
                ("undo 1", 5), ("redo a", 5), ("undo undo", 5), ("keep a", 6), ("keep a 1", 7), ("keep a b c", 9), ("size", 4),
                ("size a b", 7), ("store 0", 6), ("kept a", 5), ("paid\t", 4), ("anew ;", 5), ("lost 0", 5), ("cost a", 6),
                ("cost a plan { up; }", 14), ("since m since", 8), ("since", 5), ("since abcdefghijklm", 6), ("lose", 0), ("0", 0),
                ("row a plan { left; } }", 21), ("row a plan { left; }x", 20), ("row a plan { table { (o o; } left; }", 25),
                ("cost z plan { table { o; } left }", 32), ("abcdefghijklm", 0), ("grow z 0 !", 9)):
            self.check_line(line, place)

    def test_changed_lines(self):
        """Lines with something put in, left out, exchanged or cut off tell the place that the form tells."""
        draw = random.Random(231)
        plans = [plan_text(plan) for plan in (ROUND, LEFT, RIGHT, Plan((L,), (TWO,)), Plan((TWO_TWO, R), "left"))]
        wrong = right = 0
        for _ in range(2500):
            word = draw.choice(list(oracles.FORMS["LINE"]))
            parts = {"NAME": draw.choice(["a", "m", "zz", "undo"]), "NUMBER": draw.choice(["0", "3", "250"]), "PLAN": draw.choice(plans)}
            line = " ".join(parts.get(sign, sign) for sign in oracles.FORMS["LINE"][word])
            pieces = re.findall(r"[a-z0-9]+|\S", line)
            at = draw.randrange(len(pieces) + 1)
            kind = draw.choice(["in", "out", "exchange", "cut", "swap"])
            if kind == "in":
                pieces.insert(at, draw.choice(PIECES))
            elif kind == "out":
                del pieces[at:at + 1]
            elif kind == "exchange":
                pieces[at:at + 1] = [draw.choice(PIECES)]
            elif kind == "cut":
                del pieces[at:]
            else:
                pieces[at:at + 2] = pieces[at:at + 2][::-1]
            gap = draw.choice([" ", "\n", "  ", " \n "])
            line = draw.choice(["", " ", "\n"]) + gap.join(pieces) + draw.choice(["", " ", "\n"])
            place = oracles.wrong_place("LINE", line)
            if place is None:
                right += 1
                answer = new_console("row a " + ROUND_TEXT, "grow a 5", "keep m a").answer(line)
                self.assertFalse(answer.startswith("no BadText"), repr(line))
            else:
                wrong += 1
                self.check_line(line, place)
        self.assertGreater(wrong, 1000)
        self.assertGreater(right, 100)

    def test_beginnings(self):
        for line in ("row b " + plan_text(Plan((L,), (R,))), "cost a plan{table{(o o);}left;}", "keep m a", "grow a 12"):
            for at in range(len(line)):
                place = oracles.wrong_place("LINE", line[:at])
                if place is not None:
                    self.check_line(line[:at], place)

    def test_long_lines(self):
        self.check_line("row a" + " " * 1995, 2000)
        self.check_line(" " * 1999 + "a", 1999)
        deep = "(" * 60 + "o" + " o)" * 60
        line = "row b plan { table { " + deep
        self.check_line(line, len(line))
        console = Console(House())
        self.assertEqual(with_few_calls(lambda: console.answer(line + "; } left; }")), "no BadAct plan")
        line = "row b plan { " + "table { (o o); } " * 110 + "left; }"
        self.assertEqual(console.answer(line), "1")


class RefusedLinesTest(unittest.TestCase):
    def test_nothing_changes(self):
        house = House()
        console = Console(house)
        for line in ("row a " + ROUND_TEXT, "grow a 7", "keep m a", "grow a 2", "undo"):
            console.answer(line)
        before = told(house)
        for line in ("grow a 0", "grow a 500", "grow z 1", "keep k z", "row a " + LEFT_TEXT, "row b " + WRONG_TEXT, "plan a " + WRONG_TEXT,
                     "free a", "size z", "since z", "grow a 1 !", "undo undo", "", "rows a", "keep k a b"):
            self.assertTrue(console.answer(line).startswith("no "), line)
            self.assertEqual(told(house), before)
        for line in ("rows", "size a", "store a", "kept", "paid", "anew", "lost", "since m", "cost a " + LEFT_TEXT, "cost a " + WRONG_TEXT):
            first = console.answer(line)
            self.assertEqual(console.answer(line), first)
            self.assertEqual(told(house), before)

    def test_answers_name_the_errors(self):
        """The answer is made of the error that the house raises."""
        console = new_console("row a " + ROUND_TEXT)
        self.assertEqual(console.answer("redo"), "no " + NothingDone.__name__)
        self.assertEqual(console.answer("size z"), "no " + UnknownName.__name__)
        self.assertEqual(console.answer("free a"), f"no {BadAct.__name__} nail")
        self.assertEqual(console.answer("free a b"), f"no {BadText.__name__} 7")


if __name__ == "__main__":
    unittest.main()

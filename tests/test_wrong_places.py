import random
import re
import unittest

from lumpplans.errors import BadPlan, BadTable, BadText
from lumpplans.plantexts import plan_text, read_plan, read_shape, read_table, shape_text, table_text
from tests.oracles import wrong_place
from tests.samples import drawn_plan, drawn_shape, drawn_table, with_few_calls

READERS = {"SHAPE": read_shape, "TABLE": read_table, "PLAN": read_plan}
PIECES = (
    "o", "(", ")", "{", "}", ",", ";", "table", "plan", "left", "right", "round", "oo", "0", "12",
    "A", "\t", "o o", "shape", "abcdefghijklm", "-",
)


def told_place(form, text):
    """Return the first wrong place that reading a text tells, or None."""
    try:
        READERS[form](text)
    except BadText as error:
        return error.place
    except (BadTable, BadPlan):
        return None
    return None


def text_of_form(draw, form):
    """Return a drawn text of a form."""
    if form == "SHAPE":
        return shape_text(drawn_shape(draw, draw.randint(1, 8)))
    if form == "TABLE":
        return table_text(drawn_table(draw, draw.randint(2, 5)))
    return plan_text(drawn_plan(draw, 3))


class WrongPlaceTest(unittest.TestCase):
    def check(self, form, text, place):
        self.assertEqual(told_place(form, text), place, repr(text))
        self.assertEqual(wrong_place(form, text), place, repr(text))

    def test_examples(self):
        self.check("SHAPE", "(o o o)", 5)
        self.check("SHAPE", "(o o", 4)
        self.check("SHAPE", "oo", 0)

    def test_shapes(self):
        for text, place in (
                ("", 0), (" \n ", 3), ("o o", 2), ("(o o)", None), ("(o)", 2), ("()", 1), ("(o o)  )", 7),
                ("(o o  \n", 7), ("((o o) ", 7), ("(", 1), (")", 0), ("(o, o)", 2), ("(o o);", 5),
                ("o1", 0), ("0", 0), ("(o 12)", 3), ("o\t", 1), ("\to", 0), ("(o O)", 3), ("o abcdefghijklm", 2),
                ("(o table)", 3), ("shape", 0), ("(oo)", 1), ("[o o]", 0)):
            self.check("SHAPE", text, place)

    def test_the_earlier_one_counts(self):
        self.check("SHAPE", "(o o o \t", 5)
        self.check("SHAPE", "(o \t o o)", 3)
        self.check("SHAPE", "(o o) o !", 6)
        self.check("SHAPE", "(o o ! o", 5)

    def test_tables(self):
        for text, place in (
                ("", 0), ("table", 5), ("table {", 7), ("table { ", 8), ("table {}", 7), ("table (o o);", 6),
                ("table {(o o)}", 12), ("table {(o o);", 13), ("table {(o o);; }", 13), ("tables {", 0),
                ("table {(o o);}", None), ("table {(o o);} ;", 15), ("table {(o o); left;}", 14),
                ("table {o o;}", 9), ("(o o)", 0), ("table {(o o); table {", 14), ("table {(o o),}", 12)):
            self.check("TABLE", text, place)

    def test_plans(self):
        for text, place in (
                ("", 0), ("plan", 4), ("plan {", 6), ("plan {}", 6), ("plan {left}", 10), ("plan {left;", 11),
                ("plan {left;} ", None), ("plan {left;} }", 13), ("plan {left; right;}", 12),
                ("plan {left; table", 12), ("plan {round", 11), ("plan {round {}}", 13), ("plan {round;}", 11),
                ("plan {round {left;}}", 13), ("plan {round {table {o;}}}", None), ("plan {round {table {o;}", 23),
                ("plan {round {table {o;}}", 24), ("plan {table {o;}}", 16), ("plan {table {o;} plan", 17),
                ("plan {round {table {o;}};}", 24), ("plan {up;}", 6), ("table {o;}", 0), ("plan {(o o);}", 6),
                ("plan {roundtable {", 6)):
            self.check("PLAN", text, place)

    def test_beginnings(self):
        draw = random.Random(1)
        for form in READERS:
            for _ in range(6):
                text = text_of_form(draw, form)
                for at in range(len(text)):
                    self.check(form, text[:at], wrong_place(form, text[:at]))

    def test_changed_texts(self):
        draw = random.Random(2)
        wrong = 0
        for form in READERS:
            for _ in range(600):
                lexemes = re.findall(r"[a-z0-9]+|\S", text_of_form(draw, form))
                for _ in range(draw.randint(1, 2)):
                    self.change(draw, lexemes)
                gap = draw.choice([" ", "\n", "  "])
                text = draw.choice(["", " ", "\n"]) + gap.join(lexemes) + draw.choice(["", " \n"])
                place = wrong_place(form, text)
                self.assertEqual(told_place(form, text), place, repr(text))
                wrong += place is not None
        self.assertGreater(wrong, 1500)

    def change(self, draw, lexemes):
        """Leave out a lexeme, put one in, tell one twice, or exchange one."""
        at = draw.randrange(len(lexemes) + 1)
        kind = draw.choice(["out", "in", "twice", "exchange"])
        if kind == "in" or at == len(lexemes):
            lexemes.insert(at, draw.choice(PIECES))
        elif kind == "out":
            del lexemes[at]
        elif kind == "twice":
            lexemes.insert(at, lexemes[at])
        else:
            lexemes[at] = draw.choice(PIECES)

    def test_long_texts(self):
        self.check("SHAPE", "o" + " " * 19998 + "o", 19999)
        self.check("SHAPE", "(" * 60 + " " * 19900, 19960)
        self.check("TABLE", "table {" + "o;" * 9990, 19987)
        self.check("PLAN", "plan {" + "table {o;}" * 1990, 19906)
        deep = "(" * 61 + "o" + " o)" * 60
        self.assertEqual(with_few_calls(lambda: told_place("SHAPE", deep)), len(deep))
        text = "plan {round {table {" + deep
        self.assertEqual(with_few_calls(lambda: told_place("PLAN", text)), len(text))


if __name__ == "__main__":
    unittest.main()

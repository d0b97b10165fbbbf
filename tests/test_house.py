import random
import unittest

from lumpplans.errors import BadAct, NothingDone, UnknownName
from lumpplans.house import House
from lumpplans.papers import beginning_paper
from lumpplans.plainforms import are_alike
from lumpplans.plans import Plan
from lumpplans.stores import store
from tests.growing import growing_plans
from tests.samples import NO_TUPLES, TWO, L, R, TWO_TWO, near_plans, told_otherwise, with_few_calls
from tests.test_keeping import kept_parts

ROUND = Plan((), (TWO,))
ROUND_AGAIN = Plan((TWO,), (TWO_TWO,))
LEFT = Plan((), "left")
RIGHT = Plan((), "right")
NAMES = ("a", "b", "row", "x1", "abcdefghijkl")
NO_NAMES = NO_TUPLES + (
    (), ("a",), ["a"], {"a": 1}, "A", "1a", "a b", " a", "abcdefghijklm", "zz", 10 ** 40, LEFT, (("a", {}),), [[]])


class Model:
    """A house of which everything is told by doing all acts again, with rows that are pressed anew."""

    def __init__(self):
        self.done = []
        self.undone = []
        self.marks = {}

    def twin(self):
        other = Model()
        other.done = list(self.done)
        other.undone = list(self.undone)
        other.marks = dict(self.marks)
        return other

    def rows(self):
        """Return the dict of the rows behind the done acts, and the sums paid, anew and lost."""
        rows = {}
        paid = anew = lost = 0
        for act in self.done:
            kind, name = act[:2]
            plan, n, nailed = rows.get(name, (None, 0, False))
            before = kept_parts(plan, n) if name in rows else {}
            if kind == "drop":
                del rows[name]
                lost += len(before)
                continue
            if kind in ("row", "plan"):
                plan = act[2]
            elif kind == "grow":
                n += act[2]
            elif kind == "change":
                anew += len([lump for lump in before if lump[0] <= act[2] < lump[1]])
            else:
                nailed = kind == "nail"
            rows[name] = (plan, n, nailed)
            after = kept_parts(plan, n)
            if kind == "grow":
                paid += len([lump for lump in after if lump not in before])
            elif kind == "plan":
                paid += len([lump for lump in after if before.get(lump) != after[lump]])
                lost += len([lump for lump in before if after.get(lump) != before[lump]])
        return rows, (paid, anew, lost)

    def do(self, act):
        self.done.append(act)
        self.undone = []

    def undo(self):
        self.undone.insert(0, self.done.pop())

    def redo(self):
        self.done.append(self.undone.pop(0))

    def since(self, mark, rows):
        name, plan, n = self.marks[mark]
        if name not in rows or n < 1 or rows[name][1] <= n or not are_alike(plan, rows[name][0]):
            return None
        return beginning_paper(plan, n, rows[name][1])


def told(house):
    """Return all that a house tells."""
    rows = [
        (name, house.plan(name), house.size(name), house.is_nailed(name), house.kept(name), house.store(name))
        for name in house.rows()]
    sums = (house.kept_count(), house.paid(), house.anew(), house.lost())
    marks = [(mark, house.since(mark)) for mark in house.marks()]
    return rows, sums, marks, house.done(), house.undone()


class HouseTest(unittest.TestCase):
    def check(self, house, model):
        """Check all that a house tells against a model."""
        rows, (paid, anew, lost) = model.rows()
        self.assertEqual(house.rows(), list(rows))
        kept = 0
        for name, (plan, n, nailed) in rows.items():
            self.assertEqual(house.plan(name), plan)
            self.assertEqual(house.size(name), n)
            self.assertIs(house.is_nailed(name), nailed)
            self.assertEqual(house.kept(name), list(kept_parts(plan, n)))
            self.assertEqual(house.store(name), store(plan, n) if n else [])
            kept += len(kept_parts(plan, n))
        self.assertEqual((house.kept_count(), house.paid(), house.anew(), house.lost()), (kept, paid, anew, lost))
        self.assertEqual(paid, lost + kept)
        self.assertEqual((house.done(), house.undone()), (model.done, model.undone))
        self.assertEqual(house.marks(), sorted(model.marks))
        for mark in model.marks:
            self.assertEqual(house.since(mark), model.since(mark, rows))

    def do_all(self, house, acts):
        """Do acts that can all be done."""
        for act in acts:
            many = len(house.done())
            self.assertIs(house.act_word(act), None)
            self.assertEqual(house.do(act), many + 1)

    def check_refused(self, house, act, word):
        """Check that an act is refused with a word, and changes nothing."""
        before = told(house)
        self.assertEqual(house.act_word(act), word, repr(act))
        with self.assertRaises(BadAct) as caught:
            house.do(act)
        self.assertEqual(caught.exception.word, word)
        self.assertEqual(told(house), before)


class ExampleTest(HouseTest):
    def test_example(self):
        house = House()
        self.do_all(house, [("row", "a", ROUND), ("grow", "a", 7)])
        self.assertEqual(house.kept("a"), [(0, 4), (0, 2), (2, 4), (4, 6)])
        self.assertEqual(house.paid(), 4)
        self.do_all(house, [("grow", "a", 1)])
        self.assertEqual(house.paid(), 7)
        self.do_all(house, [("change", "a", 5)])
        self.assertEqual(house.anew(), 3)
        self.do_all(house, [("plan", "a", LEFT)])
        self.assertEqual(house.kept("a"), [(0, j) for j in range(8, 1, -1)])
        self.assertEqual((house.paid(), house.lost(), house.kept_count(), house.anew()), (13, 6, 7, 3))

    def test_new_house(self):
        house = House()
        self.assertEqual(told(house), ([], (0, 0, 0, 0), [], [], []))
        for call in (house.undo, house.redo):
            with self.assertRaises(NothingDone):
                call()


class ActsTest(HouseTest):
    def test_row(self):
        house = House()
        self.do_all(house, [("row", "b", LEFT), ("row", "a", ROUND)])
        self.assertEqual(house.rows(), ["b", "a"])
        for name, plan in (("b", LEFT), ("a", ROUND)):
            self.assertEqual((house.plan(name), house.size(name), house.is_nailed(name)), (plan, 0, False))
            self.assertEqual((house.kept(name), house.store(name)), ([], []))
        self.assertIs(house.is_nailed("a"), False)

    def test_nail_and_free(self):
        house = House()
        self.do_all(house, [("row", "a", LEFT), ("row", "b", LEFT), ("nail", "a")])
        self.assertIs(house.is_nailed("a"), True)
        self.assertIs(house.is_nailed("b"), False)
        # A nailed row grows and its things are exchanged all the same.
        self.do_all(house, [("grow", "a", 2), ("change", "a", 1), ("free", "a"), ("nail", "a"), ("free", "a")])
        self.assertIs(house.is_nailed("a"), False)
        self.assertEqual((house.paid(), house.anew(), house.lost()), (1, 1, 0))
        self.do_all(house, [("plan", "a", RIGHT), ("drop", "a"), ("drop", "b")])
        self.assertEqual(house.rows(), [])

    def test_drop(self):
        house = House()
        self.do_all(house, [("row", "a", LEFT), ("row", "b", LEFT), ("grow", "a", 9), ("drop", "a")])
        self.assertEqual(house.rows(), ["b"])
        self.assertEqual((house.paid(), house.lost(), house.kept_count()), (8, 8, 0))
        self.do_all(house, [("row", "a", ROUND)])
        self.assertEqual((house.rows(), house.size("a")), (["b", "a"], 0))

    def test_two_hundred_lumps(self):
        house = House()
        self.do_all(house, [("row", "a", LEFT), ("row", "b", ROUND), ("grow", "a", 200), ("grow", "b", 199)])
        self.assertEqual(house.size("a"), 200)
        self.assertEqual(house.kept_count(), 199 + 199 - bin(199).count("1"))
        self.check_refused(house, ("grow", "a", 1), "full")
        self.check_refused(house, ("grow", "b", 2), "full")
        self.check_refused(house, ("grow", "b", 10 ** 40), "full")
        self.do_all(house, [("grow", "b", 1), ("plan", "a", RIGHT), ("plan", "b", LEFT), ("change", "b", 0)])
        self.assertEqual((house.kept_count(), house.anew()), (199, 199))
        self.assertEqual(len(house.store("a")), 200)
        self.assertEqual(house.store("b"), [(0, 200)])

    def test_eight_rows(self):
        house = House()
        self.do_all(house, [("row", f"r{k}", LEFT) for k in range(8)])
        self.check_refused(house, ("row", "r8", LEFT), "full")
        self.check_refused(house, ("row", "r0", LEFT), "name")
        self.check_refused(house, ("row", "r8", None), "plan")
        self.do_all(house, [("drop", "r3"), ("row", "r8", LEFT)])
        self.assertEqual(house.rows(), ["r0", "r1", "r2", "r4", "r5", "r6", "r7", "r8"])
        self.check_refused(house, ("row", "r3", LEFT), "full")

    def test_alike_plans_cost_nothing(self):
        draw = random.Random(220)
        for plan in growing_plans(6):
            house = House()
            self.do_all(house, [("row", "a", plan), ("grow", "a", draw.randint(1, 200))])
            paid = house.paid()
            for other in told_otherwise(draw, plan) + [plan]:
                self.do_all(house, [("plan", "a", other)])
                self.assertEqual((house.paid(), house.lost()), (paid, 0))
                self.assertEqual(house.plan("a"), other)

    def test_nothing_is_lost_without_plan_and_drop(self):
        draw = random.Random(221)
        house = House()
        self.do_all(house, [("row", name, plan) for name, plan in zip(NAMES, growing_plans(5))])
        for _ in range(60):
            name = draw.choice(NAMES)
            before = house.kept(name)
            self.do_all(house, [("grow", name, 1)])
            self.assertEqual([lump for lump in before if lump not in house.kept(name)], [])
            self.assertEqual((house.lost(), house.paid()), (0, house.kept_count()))


class WordsTest(HouseTest):
    def setUp(self):
        self.house = House()
        self.do_all(self.house, [
            ("row", "a", ROUND), ("grow", "a", 5), ("row", "b", LEFT), ("nail", "b"), ("grow", "b", 3)])

    def test_form(self):
        for act in NO_TUPLES + (
                (), ("row",), ("row", "c"), ("row", "c", LEFT, LEFT), ("grow", "a"), ("grow", "a", 1, 1), ("change", "a"),
                ("change", "a", 1, 2), ("plan", "a"), ("nail",), ("nail", "a", "a"), ("free", "b", None), ("drop", "a", 1),
                ("drop",), ("undo",), ("keep", "m", "a"), ("rows", "a"), ("row ", "c", LEFT), ("Row", "c", LEFT),
                ["row", "c", LEFT], ["nail", "a"], ((), "a"), (("nail",), "a"), (["nail"], "a"), (None, "a"), (1, "a", 1),
                ({}, "a"), ("", "a"), (("nail", "a"),), "nail", ("a", "nail"), (True, "a"), (LEFT, "a", 1)):
            self.check_refused(self.house, act, "form")

    def test_name(self):
        for name in NO_NAMES:
            for act in (("grow", name, 1), ("change", name, 0), ("plan", name, LEFT), ("nail", name), ("free", name),
                        ("drop", name)):
                self.check_refused(self.house, act, "name")
            if name not in ("zz", "o", "left"):
                self.check_refused(self.house, ("row", name, LEFT), "name")
        self.check_refused(self.house, ("row", "a", LEFT), "name")

    def test_plan(self):
        for value in NO_TUPLES[:-1] + ("plan", (), ((), "left"), (TWO,), [TWO]):
            self.check_refused(self.house, ("row", "c", value), "plan")
            self.check_refused(self.house, ("plan", "a", value), "plan")
            self.check_refused(self.house, ("plan", "b", value), "plan")

    def test_many(self):
        for value in (0, -1, -10 ** 40, True, False, None, "1", "", (), (1,), [1], {}, LEFT):
            self.check_refused(self.house, ("grow", "a", value), "many")

    def test_place(self):
        for value in (5, 6, -1, 10 ** 40, True, False, None, "0", (), (0,), [0], {}, LEFT):
            self.check_refused(self.house, ("change", "a", value), "place")
        self.check_refused(self.house, ("change", "b", 3), "place")
        self.do_all(self.house, [("row", "c", LEFT)])
        self.check_refused(self.house, ("change", "c", 0), "place")

    def test_nail(self):
        for act in (("plan", "b", ROUND), ("plan", "b", LEFT), ("drop", "b"), ("nail", "b"), ("free", "a")):
            self.check_refused(self.house, act, "nail")

    def test_full(self):
        for many in (196, 197, 10 ** 40):
            self.check_refused(self.house, ("grow", "a", many), "full")
        self.check_refused(self.house, ("grow", "b", 198), "full")
        self.do_all(self.house, [("grow", "a", 195)])

    def test_which_comes_first(self):
        house = self.house
        for act, word in (
                (("row", "a", None), "name"), (("row", 5, 5), "name"), (("grow", "z", 0), "name"), (("plan", "z", 0), "name"),
                (("change", "z", -1), "name"), (("row", "a"), "form"), (["grow", "z", 0], "form"), (("plan", "b", 0), "plan"),
                (("grow", "b", True), "many"), (("change", "b", 7), "place"), (("drop", "z"), "name"), (("free", "z"), "name"),
                (("row", "c", "left"), "plan")):
            self.check_refused(house, act, word)
        for k in range(6):
            self.do_all(house, [("row", f"r{k}", LEFT)])
        for act, word in (
                (("row", "a", LEFT), "name"), (("row", "new", 0), "plan"), (("row", "new", LEFT), "full"),
                (("row", "", LEFT), "name"), (("grow", "a", 0), "many"), (("grow", "a", 900), "full"), (("row",), "form")):
            self.check_refused(house, act, word)

    def test_120_acts(self):
        house = self.house
        while len(house.done()) < 120:
            self.do_all(house, [("change", "a", 0)])
        self.assertEqual(len(house.done()), 120)
        for act in (("change", "a", 0), ("row", "c", LEFT), ("grow", "a", 1), ("plan", "a", LEFT), ("nail", "a"),
                    ("free", "b"), ("drop", "a"), ("grow", "a", 900)):
            self.check_refused(house, act, "full")
        for act, word in (
                (("change", "a", 5), "place"), (("row", "a", LEFT), "name"), (("grow", "a", 0), "many"), (("a",), "form"),
                (("plan", "a", 0), "plan"), (("nail", "b"), "nail"), (("free", "a"), "nail"), (("drop", "b"), "nail")):
            self.check_refused(house, act, word)
        self.assertEqual(house.undo(), 119)
        self.do_all(house, [("drop", "a")])
        self.check_refused(house, ("free", "b"), "full")
        self.assertEqual(house.undo(), 119)
        self.assertEqual(house.redo(), 120)
        self.check_refused(house, ("free", "b"), "full")
        for many in range(119, -1, -1):
            self.assertEqual(house.undo(), many)
        self.assertEqual((house.rows(), house.paid(), house.anew(), house.lost()), ([], 0, 0, 0))
        self.assertEqual(len(house.undone()), 120)


class UndoTest(HouseTest):
    def test_undo_and_redo(self):
        house = House()
        acts = [("row", "a", ROUND), ("grow", "a", 8), ("plan", "a", LEFT), ("nail", "a"), ("change", "a", 3), ("free", "a"),
                ("drop", "a"), ("row", "a", RIGHT)]
        states = [told(house)[:2]]
        for act in acts:
            house.do(act)
            states.append(told(house)[:2])
        for k in range(len(acts) - 1, -1, -1):
            self.assertEqual(house.undo(), k)
            self.assertEqual(told(house)[:2], states[k])
            self.assertEqual((house.done(), house.undone()), (acts[:k], acts[k:]))
        with self.assertRaises(NothingDone):
            house.undo()
        for k in range(1, len(acts) + 1):
            self.assertEqual(house.redo(), k)
            self.assertEqual(told(house)[:2], states[k])
            self.assertEqual((house.done(), house.undone()), (acts[:k], acts[k:]))
        before = told(house)
        with self.assertRaises(NothingDone):
            house.redo()
        self.assertEqual(told(house), before)

    def test_acts_between(self):
        house = House()
        self.do_all(house, [("row", "a", ROUND), ("grow", "a", 8), ("grow", "a", 1)])
        house.undo()
        house.undo()
        # What is refused leaves the undone acts as they are.
        self.check_refused(house, ("grow", "a", 0), "many")
        self.assertEqual(house.undone(), [("grow", "a", 8), ("grow", "a", 1)])
        self.assertEqual(house.redo(), 2)
        self.do_all(house, [("grow", "a", 3)])
        self.assertEqual(house.undone(), [])
        with self.assertRaises(NothingDone):
            house.redo()
        self.assertEqual((house.size("a"), house.done()), (11, [("row", "a", ROUND), ("grow", "a", 8), ("grow", "a", 3)]))

    def test_acts_are_kept_as_they_were_passed(self):
        house = House()
        acts = [("row", "a", ROUND), ("plan", "a", ROUND_AGAIN)]
        self.do_all(house, acts)
        for act, passed in zip(house.done(), acts):
            self.assertIs(act, passed)
        house.undo()
        self.assertIs(house.undone()[0], acts[1])
        self.assertEqual(house.plan("a"), ROUND)


class HistoriesTest(HouseTest):
    def drawn_act(self, draw, plans, rows):
        """Return a drawn act, which often can be done."""
        kind = draw.choice(["row", "grow", "grow", "grow", "change", "change", "plan", "plan", "nail", "free", "drop"])
        names = [name for name in rows if kind != "free" or rows[name][2]] or ["zz"]
        name = draw.choice(NAMES) if kind == "row" else draw.choice(list(names))
        if kind in ("row", "plan"):
            return (kind, name, draw.choice(plans))
        if kind == "grow":
            return (kind, name, draw.choice([0, 1, 1, 2, 3, 6]))
        if kind == "change":
            return (kind, name, draw.randint(-1, 9))
        return (kind, name)

    def step(self, draw, plans, house, model):
        """Do one drawn thing to a house and its model."""
        rows, _ = model.rows()
        kind = draw.choice(["act"] * 8 + ["undo", "undo", "redo", "keep"])
        if kind == "act":
            act = self.drawn_act(draw, plans, rows)
            word = house.act_word(act)
            if word is None:
                model.do(act)
                self.assertEqual(house.do(act), len(model.done))
            else:
                self.check_refused(house, act, word)
        elif kind == "keep":
            mark, name = draw.choice(["m", "k2", "a"]), draw.choice(NAMES)
            if name in rows:
                self.assertIs(house.keep(mark, name), None)
                model.marks[mark] = (name, rows[name][0], rows[name][1])
            else:
                with self.assertRaises(UnknownName):
                    house.keep(mark, name)
        elif (model.done if kind == "undo" else model.undone):
            call = model.undo if kind == "undo" else model.redo
            call()
            self.assertEqual(house.undo() if kind == "undo" else house.redo(), len(model.done))
        else:
            with self.assertRaises(NothingDone):
                house.undo() if kind == "undo" else house.redo()

    def test_histories(self):
        draw = random.Random(222)
        for plan in growing_plans(10):
            plans = near_plans(draw, plan)[:4] + told_otherwise(draw, plan)[:2] + [plan, plan, ROUND]
            house = House()
            model = Model()
            for _ in range(80):
                self.step(draw, plans, house, model)
                self.check(house, model)

    def test_twins(self):
        draw = random.Random(223)
        plans = [ROUND, LEFT, ROUND_AGAIN, Plan((L,), (R,))]
        pairs = [(House(), Model())]
        for step in range(150):
            house, model = draw.choice(pairs)
            if step in (30, 60, 90):
                pairs.append((house.twin(), model.twin()))
                self.assertIs(type(pairs[-1][0]), House)
                self.check(*pairs[-1])
            self.step(draw, plans, house, model)
        for house, model in pairs:
            self.check(house, model)


class MarksTest(HouseTest):
    def setUp(self):
        self.house = House()
        self.do_all(self.house, [("row", "a", ROUND), ("grow", "a", 5)])

    def test_since(self):
        house = self.house
        self.assertIs(house.keep("m", "a"), None)
        self.assertIs(house.since("m"), None)
        house.do(("grow", "a", 2))
        self.assertEqual(house.since("m"), [(0, 4), (4, 5), (5, 6), (6, 7)])
        # Things that are exchanged, nails and plans that are alike make no difference.
        self.do_all(house, [("change", "a", 1), ("plan", "a", ROUND_AGAIN), ("nail", "a")])
        self.assertEqual(house.since("m"), [(0, 4), (4, 5), (5, 6), (6, 7)])
        self.do_all(house, [("free", "a"), ("plan", "a", LEFT)])
        self.assertIs(house.since("m"), None)
        self.do_all(house, [("drop", "a")])
        self.assertIs(house.since("m"), None)
        self.do_all(house, [("row", "a", ROUND), ("grow", "a", 5)])
        self.assertIs(house.since("m"), None)
        self.do_all(house, [("grow", "a", 195)])
        self.assertEqual(house.since("m"), beginning_paper(ROUND, 5, 200))

    def test_undone_acts(self):
        house = self.house
        house.do(("grow", "a", 1))
        house.keep("m", "a")
        house.undo()
        self.assertEqual(house.undone(), [("grow", "a", 1)])
        house.keep("k", "a")
        self.assertEqual((house.done(), house.undone()), ([("row", "a", ROUND), ("grow", "a", 5)], [("grow", "a", 1)]))
        self.assertIs(house.since("m"), None)
        house.redo()
        self.assertIs(house.since("m"), None)
        self.assertEqual(house.since("k"), [(0, 4), (4, 5), (5, 6)])
        for _ in range(3):
            house.undo()
        self.assertEqual(house.marks(), ["k", "m"])
        self.assertIs(house.since("k"), None)

    def test_mark_of_an_empty_row(self):
        house = self.house
        house.do(("row", "b", LEFT))
        house.keep("m", "b")
        house.do(("grow", "b", 3))
        self.assertIs(house.since("m"), None)
        house.keep("m", "b")
        house.do(("grow", "b", 1))
        self.assertEqual(house.since("m"), [(0, 3), (3, 4)])

    def test_a_mark_in_the_place_of_another(self):
        house = self.house
        house.do(("row", "b", LEFT))
        house.do(("grow", "b", 3))
        for mark in ("z", "m", "a", "m2", "b"):
            house.keep(mark, "a")
        self.assertEqual(house.marks(), ["a", "b", "m", "m2", "z"])
        house.keep("m", "b")
        self.assertEqual(house.marks(), ["a", "b", "m", "m2", "z"])
        self.do_all(house, [("grow", "a", 1), ("grow", "b", 1)])
        self.assertEqual(house.since("m"), [(0, 3), (3, 4)])
        self.assertEqual(house.since("z"), [(0, 4), (4, 5), (5, 6)])

    def test_twenty_marks(self):
        for k in range(20):
            self.house.keep(f"m{k}", "a")
        self.assertEqual(self.house.marks(), sorted(f"m{k}" for k in range(20)))

    def test_unknown_names(self):
        house = self.house
        house.keep("m", "a")
        before = told(house)
        for name in NO_NAMES + ("m",):
            for call in (house.plan, house.size, house.is_nailed, house.kept, house.store,
                         lambda value: house.keep("m", value), lambda value: house.keep("new", value)):
                with self.assertRaises(UnknownName) as caught:
                    call(name)
                self.assertIs(caught.exception.name, name)
            self.assertEqual(told(house), before)
        for mark in NO_NAMES + ("a", "new"):
            with self.assertRaises(UnknownName) as caught:
                house.since(mark)
            self.assertIs(caught.exception.name, mark)


class ListsTest(HouseTest):
    def test_lists_are_new(self):
        house = House()
        self.do_all(house, [("row", "a", ROUND), ("grow", "a", 7)])
        house.keep("m", "a")
        house.do(("grow", "a", 2))
        house.undo()
        house.redo()
        house.do(("grow", "a", 2))
        house.undo()
        before = told(house)
        for call in (house.done, house.undone, house.rows, house.marks, lambda: house.kept("a"), lambda: house.store("a"),
                     lambda: house.since("m")):
            found = call()
            self.assertIs(type(found), list)
            self.assertTrue(found)
            found.clear()
            self.assertEqual(told(house), before)
        for pair in house.kept("a") + house.store("a") + house.since("m"):
            self.assertIs(type(pair), tuple)

    def test_few_calls(self):
        house = House()
        deep = Plan((TWO,) * 6, "left")
        self.do_all(house, [("row", "a", LEFT)])
        for act in (("grow", "a", 200), ("plan", "a", deep), ("plan", "a", RIGHT), ("plan", "a", LEFT), ("change", "a", 9)):
            with_few_calls(lambda: house.do(act))
        with_few_calls(lambda: told(house))


if __name__ == "__main__":
    unittest.main()

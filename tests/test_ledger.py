import random
import unittest

from lumpplans.errors import BadPlace
from lumpplans.lasting import lasting
from lumpplans.ledger import Ledger
from lumpplans.lumps import all_lumps
from lumpplans.plans import Plan
from lumpplans.stores import store
from lumpplans.worths import lump_worths
from tests.growing import FOUR, growing_plans, parts_at
from tests.samples import NO_TUPLES, TWO, L, R, TWO_TWO, check_new_list, near_plans, told_otherwise, with_few_calls
from tests.test_digits import NO_PLACES
from tests.test_worths import drawn_rule

RULE = (2, 3, 1, 1000)
ROUND = Plan((), (TWO,))


class Model:
    """A row that is pressed anew for each answer."""

    def __init__(self, rule, plan):
        self.rule = rule
        self.plan = plan
        self.things = []
        self.presses = 0

    def kept(self):
        """Return the dict of the kept lumps with the texts of their parts."""
        n = len(self.things)
        if n == 0:
            return {}
        parts = parts_at(self.plan, n)
        return {(i, j): parts[(i, j)] for i, j in lasting(self.plan, n) if j - i > 1}

    def add(self, things):
        before = self.kept()
        self.things += things
        self.presses += len([lump for lump in self.kept() if lump not in before])

    def change(self, place, thing):
        self.things[place] = thing
        self.presses += len([lump for lump in self.kept() if lump[0] <= place < lump[1]])

    def exchange(self, plan):
        before = self.kept()
        self.plan = plan
        self.presses += len([lump for lump, part in self.kept().items() if before.get(lump) != part])


class LedgerTest(unittest.TestCase):
    def check(self, ledger, model):
        """Check all answers of a ledger against a model."""
        things = model.things
        self.assertEqual(ledger.things(), things)
        self.assertEqual(ledger.plan(), model.plan)
        self.assertEqual(ledger.presses(), model.presses)
        if not things:
            self.assertIs(ledger.worth(), None)
            self.assertEqual((ledger.whole_presses(), ledger.kept()), (0, []))
            self.assertIs(ledger.worth_of(0, 0), None)
            self.assertIs(ledger.worth_of(0, 1), None)
            return
        worths = lump_worths(model.rule, model.plan, things)
        self.assertEqual(ledger.worth(), worths[0][1])
        kept = model.kept()
        self.assertEqual(ledger.kept(), [(lump, worth) for lump, worth in worths if lump in kept])
        for lump, worth in worths[::3]:
            self.assertEqual(ledger.worth_of(*lump), worth)
        self.assertEqual(ledger.whole_presses(), len(store(model.plan, len(things))) - 1)

    def act(self, draw, plans, ledger, model):
        """Do the same drawn thing to a ledger and a model."""
        kind = draw.choice(["add", "add", "change", "exchange"])
        if kind == "add":
            many = min(draw.choice([0, 1, 1, 2, 3, 7]), 60 - len(model.things))
            things = [draw.randrange(model.rule[3]) for _ in range(many)]
            model.add(things)
            self.assertEqual(ledger.add(draw.choice([list, tuple])(things)), len(model.things))
        elif kind == "exchange":
            plan = draw.choice(plans + [model.plan])
            model.exchange(plan)
            ledger.exchange(plan)
        elif model.things:
            place = draw.randrange(len(model.things))
            thing = draw.choice([model.things[place], draw.randrange(model.rule[3])])
            model.change(place, thing)
            self.assertIs(ledger.change(place, thing), None)
        else:
            with self.assertRaises(BadPlace):
                ledger.change(0, 0)

    def test_histories(self):
        draw = random.Random(150)
        for plan in growing_plans(10):
            rule = drawn_rule(draw)
            plans = [plan] + near_plans(draw, plan) + told_otherwise(draw, plan) + [ROUND, Plan((), "left")]
            ledger = Ledger(rule, plan)
            model = Model(rule, plan)
            self.check(ledger, model)
            for _ in range(30):
                self.act(draw, plans, ledger, model)
                self.check(ledger, model)

    def test_presses_of_the_round(self):
        ledger = Ledger(RULE, ROUND)
        presses = []
        for k in range(8):
            ledger.add([k])
            presses.append(ledger.presses())
        # At 2, 4, 6 and 8 lumps become full: 1, 2, 1 and 3 of them have more than one place.
        self.assertEqual(presses, [0, 1, 1, 3, 3, 4, 4, 7])
        ledger.change(5, 5)
        self.assertEqual(ledger.presses(), 10)
        ledger.exchange(Plan((), "left"))
        # Of (0, 2), (0, 3) and so on to (0, 8) only (0, 2) was kept with the same part.
        self.assertEqual(ledger.presses(), 16)
        ledger.exchange(ROUND)
        self.assertEqual(ledger.presses(), 22)
        self.assertEqual(ledger.add([]), 8)
        ledger.exchange(Plan((TWO,), (TWO_TWO,)))
        self.assertEqual(ledger.presses(), 22)
        self.assertEqual([lump for lump, _ in ledger.kept()],
                         [(0, 8), (0, 4), (0, 2), (2, 4), (4, 8), (4, 6), (6, 8)])

    def test_whole_presses(self):
        for many, of_round, of_right in ((1, 0, 0), (2, 0, 1), (3, 1, 2), (7, 2, 6), (8, 0, 7), (200, 2, 199)):
            for plan, expected in ((ROUND, of_round), (Plan((), "left"), 0), (Plan((), "right"), of_right)):
                ledger = Ledger(RULE, plan)
                ledger.add([1] * many)
                self.assertEqual(ledger.whole_presses(), expected)

    def test_a_lump_that_becomes_lasting_later(self):
        ledger = Ledger(RULE, Plan((), (FOUR,)))
        for k, presses in enumerate([0, 0, 0, 3]):
            ledger.add([k])
            self.assertEqual(ledger.presses(), presses)

    def test_empty_row(self):
        ledger = Ledger(RULE, ROUND)
        for _ in range(2):
            self.assertEqual(ledger.add([]), 0)
            self.assertEqual(ledger.add(()), 0)
            ledger.exchange(Plan((), "left"))
            self.assertIs(ledger.worth(), None)
            self.assertEqual((ledger.things(), ledger.kept(), ledger.presses(), ledger.whole_presses()), ([], [], 0, 0))
            for value in (0, -1, 1, None):
                with self.assertRaises(BadPlace):
                    ledger.change(value, 1)

    def test_what_is_no_place(self):
        ledger = Ledger(RULE, ROUND)
        ledger.add([1, 2, 3, 4, 5, 6, 7])
        before = (ledger.things(), ledger.kept(), ledger.worth(), ledger.presses())
        for value in NO_PLACES + (7, 8, 10 ** 40):
            with self.assertRaises(BadPlace) as caught:
                ledger.change(value, 5)
            self.assertIs(caught.exception.number, value)
            self.assertEqual((ledger.things(), ledger.kept(), ledger.worth(), ledger.presses()), before)

    def test_worth_of_anything(self):
        ledger = Ledger(RULE, ROUND)
        ledger.add([1, 2, 3, 4, 5, 6, 7])
        lumps = all_lumps(ROUND, 7)
        worths = dict(lump_worths(RULE, ROUND, [1, 2, 3, 4, 5, 6, 7]))
        for i in range(-2, 10):
            for j in range(-2, 10):
                expected = worths[(i, j)] if (i, j) in lumps else None
                self.assertEqual(ledger.worth_of(i, j), expected)
        for value in NO_PLACES + NO_TUPLES:
            if value != 0 or isinstance(value, bool):
                self.assertIs(ledger.worth_of(value, 7), None)
                self.assertIs(ledger.worth_of(value, value), None)
            if value not in (1, 2) or isinstance(value, bool):
                self.assertIs(ledger.worth_of(0, value), None)
        self.assertIs(ledger.worth_of(False, True), None)

    def test_twins(self):
        draw = random.Random(151)
        for plan in growing_plans(4):
            plans = near_plans(draw, plan) + [ROUND]
            ledgers = [Ledger(RULE, plan)]
            models = [Model(RULE, plan)]
            for step in range(40):
                k = draw.randrange(len(ledgers))
                if step % 10 == 9:
                    ledgers.append(ledgers[k].twin())
                    models.append(Model(RULE, models[k].plan))
                    models[-1].things = list(models[k].things)
                    models[-1].presses = models[k].presses
                self.act(draw, plans, ledgers[k], models[k])
            for ledger, model in zip(ledgers, models):
                self.assertIs(type(ledger), Ledger)
                self.check(ledger, model)

    def test_lists(self):
        ledger = Ledger(RULE, ROUND)
        things = [1, 2, 3]
        ledger.add(things)
        self.assertEqual(things, [1, 2, 3])
        things[0] = 9
        things.append(4)
        self.assertEqual(ledger.things(), [1, 2, 3])
        check_new_list(self, ledger.things)
        check_new_list(self, ledger.kept)
        ledger.things().clear()
        ledger.kept().clear()
        self.assertEqual(ledger.add(ledger.things()), 6)
        self.assertEqual(ledger.things(), [1, 2, 3, 1, 2, 3])
        for pair in ledger.kept():
            self.assertIs(type(pair), tuple)
            self.assertIs(type(pair[0]), tuple)

    def test_long_rows(self):
        for plan in (ROUND, Plan((), "left"), Plan((), "right"), Plan((L, R), "left"), Plan((R,), (L, TWO))):
            ledger = Ledger(RULE, plan)
            self.assertEqual(with_few_calls(lambda: ledger.add([7] * 200)), 200)
            with_few_calls(lambda: ledger.change(100, 8))
            with_few_calls(lambda: ledger.exchange(Plan((TWO,), "left")))
            worths = lump_worths(RULE, Plan((TWO,), "left"), [7] * 100 + [8] + [7] * 99)
            self.assertEqual(ledger.worth(), worths[0][1])


if __name__ == "__main__":
    unittest.main()

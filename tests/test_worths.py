import itertools
import random
import unittest

from lumpplans.digits import depth
from lumpplans.lumps import all_lumps
from lumpplans.papers import beginning_paper, thing_paper
from lumpplans.plans import Plan
from lumpplans.pressing import shape
from lumpplans.shapes import comb, paths_of
from lumpplans.worths import (
    bracket_paper, carried, carried_on, factors, is_free, is_rule, judge_bracket_paper, lump_worths, plan_worth,
    pressed, shape_worth, things_apart,
)
from tests import oracles
from tests.growing import growing_plans
from tests.samples import (
    NO_TUPLES, P, Q, TWO, L, R, check_new_list, drawn_plan, drawn_shape, shapes_of, with_few_calls,
)
from tests.test_digits import great_plans

GREAT = 10 ** 30
ROUND = Plan((), (TWO,))
LARGEST = 10 ** 6
LEFT_THREE = (P, ())
RIGHT_THREE = ((), P)


def rules(most):
    """Return all rules with m up to most."""
    return [
        (a, b, c, m) for m in range(1, most + 1) for a, b, c in itertools.product(range(m), repeat=3)]


def drawn_rule(draw):
    """Return a drawn rule, some with small m and some with great m."""
    m = draw.choice([1, 2, 3, 4, 6, 10, 97, 1000, 999983, LARGEST])
    return tuple(draw.randrange(m) for _ in range(3)) + (m,)


def drawn_things(draw, rule, many):
    return [draw.randrange(rule[3]) for _ in range(many)]


def worth_of_text(rule, text, things):
    """Return the worth of a text of a shape, from the least brackets outwards."""
    a, b, c, m = rule
    left = list(things)
    found = []
    for sign in text:
        if sign == "o":
            found.append(left.pop(0))
        elif sign == ")":
            y = found.pop()
            x = found.pop()
            found.append(divmod(a * x + b * y + c, m)[1])
    (worth,) = found
    return worth


class RuleTest(unittest.TestCase):
    def test_rules(self):
        for value in ((0, 0, 0, 1), (1, 1, 0, 2), (5, 6, 2, 7), (LARGEST - 1,) * 3 + (LARGEST,), (0, 0, 0, LARGEST)):
            self.assertIs(is_rule(value), True, value)
        for rule in rules(3):
            self.assertIs(is_rule(rule), True)

    def test_no_rules(self):
        wrong = NO_TUPLES + (
            (), (1,), (0, 0, 1), (0, 0, 0, 0, 1), (0, 0, 0, 0), (1, 0, 0, 1), (0, 1, 0, 1), (0, 0, 1, 1), (7, 0, 0, 7),
            (0, 0, 0, LARGEST + 1), (0, 0, 0, 10 ** 40), (LARGEST, 0, 0, LARGEST), (-1, 0, 0, 5), (0, -1, 0, 5),
            (0, 0, -1, 5), (0, 0, 0, -1), (0, 0, 0, -5), (True, 1, 1, 2), (1, True, 1, 2), (1, 1, True, 2),
            (0, 0, 0, True), (False, 0, 0, 1), (0, False, 0, 3), (0, 0, False, 3), [0, 0, 0, 1], ["0", 0, 0, 1],
            ("0", 0, 0, 1), (0, 0, 0, "1"), (None, 0, 0, 1), (0, 0, 0, None), ((0,), 0, 0, 1), ((0, 0, 0, 1),),
            ([0], 0, 0, 1), (0, 0, {}, 1), (0, 0, 0, ROUND))
        for value in wrong:
            self.assertIs(is_rule(value), False, repr(value))


class WorthTest(unittest.TestCase):
    def test_pressed(self):
        self.assertEqual(pressed((2, 3, 4, 10), 5, 6), 2)
        self.assertEqual(pressed((0, 0, 0, 1), 0, 0), 0)
        self.assertEqual(pressed((LARGEST - 1,) * 3 + (LARGEST,), LARGEST - 1, LARGEST - 1), 1)

    def test_shapes(self):
        draw = random.Random(140)
        for size in list(range(1, 9)) + [20, 60]:
            for _ in range(8):
                made = drawn_shape(draw, size)
                rule = drawn_rule(draw)
                things = drawn_things(draw, rule, size)
                expected = worth_of_text(rule, oracles.text_of(made), things)
                self.assertEqual(shape_worth(rule, made, things), expected)
                self.assertEqual(shape_worth(rule, made, tuple(things)), expected)
        self.assertEqual(shape_worth((2, 3, 4, 10), Q, [1, 2, 3]), 7)
        self.assertEqual(shape_worth((2, 3, 4, 10), (), [9]), 9)

    def test_rows(self):
        draw = random.Random(141)
        for plan in growing_plans(8):
            for n in (1, 2, 3, 5, 8, 13, 21, 50):
                rule = drawn_rule(draw)
                things = drawn_things(draw, rule, n)
                text = oracles.plan_shape(plan, n)
                self.assertEqual(plan_worth(rule, plan, things), worth_of_text(rule, text, things))
                self.assertEqual(plan_worth(rule, plan, things), shape_worth(rule, shape(plan, n), things))
                found = lump_worths(rule, plan, things)
                self.assertEqual([lump for lump, _ in found], all_lumps(plan, n))
                self.assertEqual(lump_worths(rule, plan, tuple(things)), found)
                ranges = oracles.ranges(text)
                for (i, j), worth in found:
                    start, end = ranges[(i, j)]
                    self.assertEqual(worth, worth_of_text(rule, text[start:end], things[i:j]))

    def test_long_rows(self):
        draw = random.Random(142)
        for plan in growing_plans(6) + [Plan((), "left"), Plan((), "right")]:
            rule = (3, 5, 7, LARGEST)
            things = drawn_things(draw, rule, 200)
            found = with_few_calls(lambda: lump_worths(rule, plan, things))
            self.assertEqual(len(found), 399)
            self.assertEqual(found[0], ((0, 200), with_few_calls(lambda: plan_worth(rule, plan, things))))
            text = oracles.plan_shape(plan, 200)
            self.assertEqual(found[0][1], worth_of_text(rule, text, things))

    def test_kinds_and_new_lists(self):
        rule = (1, 2, 0, 5)
        check_new_list(self, lambda: lump_worths(rule, ROUND, [1, 2, 3]))
        check_new_list(self, lambda: factors(rule, Q))
        check_new_list(self, lambda: things_apart(rule, LEFT_THREE, RIGHT_THREE))
        for pair in lump_worths(rule, ROUND, [1, 2, 3]):
            self.assertIs(type(pair), tuple)
            self.assertIs(type(pair[0]), tuple)


class FactorsTest(unittest.TestCase):
    def test_factors(self):
        draw = random.Random(143)
        for size in list(range(1, 9)) + [60]:
            for _ in range(6):
                made = drawn_shape(draw, size)
                rule = drawn_rule(draw)
                a, b, _, m = rule
                found = factors(rule, made)
                for path, factor in zip(paths_of(made), found, strict=True):
                    self.assertEqual(factor, a ** path.count(0) * b ** path.count(1) % m)
                things = drawn_things(draw, rule, size)
                total = sum(thing * factor for thing, factor in zip(things, found))
                rest = shape_worth(rule, made, [0] * size)
                self.assertEqual(shape_worth(rule, made, things), (total + rest) % m)

    def test_combs(self):
        self.assertEqual(factors((2, 3, 0, 1000), comb(4, "left")), [8, 12, 6, 3])
        self.assertEqual(factors((2, 3, 0, 1000), comb(4, "right")), [2, 6, 18, 27])
        self.assertEqual(factors((0, 0, 0, 1), Q), [0, 0, 0])
        self.assertEqual(factors((0, 0, 0, 1), ()), [0])
        self.assertEqual(factors((0, 0, 1, 2), ()), [1])
        for side in ("left", "right"):
            self.assertEqual(len(with_few_calls(lambda: factors((2, 3, 0, 1000), comb(60, side)))), 60)

    def test_things_apart(self):
        draw = random.Random(144)
        apart = 0
        for rule in rules(4) + [drawn_rule(draw) for _ in range(30)]:
            for size in (2, 3, 4):
                one, other = drawn_shape(draw, size), drawn_shape(draw, size)
                found = things_apart(rule, one, other)
                if found is not None:
                    apart += 1
                    self.assertEqual(len(found), size)
                    self.assertTrue(all(type(thing) is int and 0 <= thing < rule[3] for thing in found))
                    self.assertNotEqual(shape_worth(rule, one, found), shape_worth(rule, other, found))
                elif rule[3] <= 4:
                    for things in itertools.product(range(rule[3]), repeat=size):
                        self.assertEqual(shape_worth(rule, one, things), shape_worth(rule, other, things))
                else:
                    self.assertEqual(factors(rule, one), factors(rule, other))
                self.assertIs(things_apart(rule, one, one), None)
        self.assertGreater(apart, 50)

    def test_apart_by_zeros_alone(self):
        # The factors are equal, and only what is added tells the shapes apart.
        self.assertEqual(factors((1, 0, 1, 2), P), [1, 0])
        self.assertEqual(things_apart((0, 1, 1, 3), LEFT_THREE, RIGHT_THREE), [0, 0, 0])
        self.assertIs(things_apart((0, 0, 0, 1), LEFT_THREE, RIGHT_THREE), None)


class BracketsTest(unittest.TestCase):
    def test_all_rules_with_small_m(self):
        free = 0
        for rule in rules(6):
            m = rule[3]
            papers = []
            for things in itertools.product(range(m), repeat=3):
                unlike = shape_worth(rule, LEFT_THREE, things) != shape_worth(rule, RIGHT_THREE, things)
                self.assertIs(judge_bracket_paper(rule, things), unlike)
                if unlike:
                    papers.append(things)
            self.assertIs(is_free(rule), papers == [])
            if papers:
                self.assertIn(bracket_paper(rule), papers)
                self.assertIs(type(bracket_paper(rule)), tuple)
            else:
                free += 1
                self.assertIs(bracket_paper(rule), None)
        self.assertGreater(free, 20)

    def test_told_by_divisors(self):
        draw = random.Random(145)
        for rule in [drawn_rule(draw) for _ in range(200)] + rules(7):
            a, b, c, m = rule
            free = (a * a - a) % m == 0 and (b * b - b) % m == 0 and (a - b) * c % m == 0
            self.assertIs(is_free(rule), free)
            if not free:
                self.assertIs(judge_bracket_paper(rule, bracket_paper(rule)), True)

    def test_free_rules_of_larger_shapes(self):
        draw = random.Random(146)
        shapes = shapes_of(5)
        for rule in [(1, 1, 0, LARGEST), (1, 1, 7, 100), (0, 1, 0, 9), (1, 0, 0, 9), (4, 3, 0, 6), (3, 3, 5, 6), (4, 4, 1, 12)]:
            self.assertIs(is_free(rule), True)
            for _ in range(5):
                things = drawn_things(draw, rule, 5)
                self.assertEqual(len({shape_worth(rule, made, things) for made in shapes}), 1)

    def test_judge_anything(self):
        rule = (2, 3, 1, 5)
        self.assertIs(judge_bracket_paper(rule, (1, 0, 0)), True)
        for value in NO_TUPLES + (
                (), (1, 0), (1, 0, 0, 0), [1, 0, 0], (True, 0, 0), (1, False, 0), (1, 0, False), (5, 0, 0), (6, 0, 0),
                (-4, 0, 0), ("1", 0, 0), (1, 0, None), ((1, 0, 0),), (1, [0], 0), (1, (), 0), (10 ** 40, 0, 0)):
            self.assertIs(judge_bracket_paper(rule, value), False, repr(value))
        for value in ((0, 0, 0), (1, 0, 0), (0, 0, 1), (0, 0), None):
            self.assertIs(judge_bracket_paper((1, 1, 0, 5), value), False)
            self.assertIs(judge_bracket_paper((0, 0, 0, 1), value), False)


class CarriedTest(unittest.TestCase):
    def test_carried(self):
        draw = random.Random(147)
        for plan in growing_plans(8):
            for n in (1, 2, 3, 6, 11, 30, 200):
                rule = drawn_rule(draw)
                things = drawn_things(draw, rule, n)
                told = dict(lump_worths(rule, plan, things))
                for i in sorted({0, n - 1, n // 2, draw.randrange(n)}):
                    worths = [told[lump] for lump in thing_paper(plan, n, i)]
                    thing = draw.randrange(rule[3])
                    changed = things[:i] + [thing] + things[i + 1:]
                    expected = plan_worth(rule, plan, changed)
                    self.assertEqual(carried(rule, plan, n, i, thing, worths), expected)
                    self.assertEqual(carried(rule, plan, n, i, thing, tuple(worths)), expected)
                    self.assertEqual(carried(rule, plan, n, i, things[i], worths), plan_worth(rule, plan, things))

    def test_carried_at_great_numbers(self):
        # All things are 1, and a lump is worth the number of its places, by the remainder.
        rule = (1, 1, 0, 999983)
        for one, other in great_plans():
            for n in (GREAT, 2 ** 99 - 1, 12345):
                for i in (n - 1, n // 2, 0):
                    if depth(one, n, i) <= 400:
                        worths = [(y - x) % 999983 for x, y in thing_paper(one, n, i)]
                        self.assertEqual(carried(rule, one, n, i, 1, worths), n % 999983)
                        self.assertEqual(carried(rule, other, n, i, 8, worths), (n + 7) % 999983)

    def test_carried_on(self):
        draw = random.Random(148)
        for plan in growing_plans(8):
            for _ in range(12):
                rule = drawn_rule(draw)
                more = draw.choice([2, 3, 5, 9, 20, 77, 200])
                n = draw.randint(1, more - 1)
                things = drawn_things(draw, rule, more)
                then = dict(lump_worths(rule, plan, things[:n]))
                now = dict(lump_worths(rule, plan, things))
                paper = beginning_paper(plan, n, more)
                worths = [now[lump] for lump in paper]
                self.assertEqual([worth for worth, lump in zip(worths, paper) if lump[1] <= n],
                                 [then[lump] for lump in paper if lump[1] <= n])
                expected = (plan_worth(rule, plan, things[:n]), plan_worth(rule, plan, things))
                found = carried_on(rule, plan, n, more, worths)
                self.assertEqual(found, expected)
                self.assertIs(type(found), tuple)
                self.assertEqual(carried_on(rule, plan, n, more, tuple(worths)), expected)

    def test_only_the_paper_counts(self):
        """What is told hangs on the worths that are passed, not on things."""
        rule = (2, 3, 0, 1000)
        # The paper for 5 and 7 is (0, 4), (4, 5), (5, 6), (6, 7).
        found = carried_on(rule, ROUND, 5, 7, [10, 1, 2, 3])
        self.assertEqual(found, (2 * 10 + 3 * 1, 2 * 10 + 3 * (2 * (2 * 1 + 3 * 2) + 3 * 3)))
        self.assertEqual(carried(rule, ROUND, 7, 3, 5, [1, 10, 100]), 2 * (2 * 10 + 3 * (2 * 1 + 3 * 5)) + 3 * 100)

    def test_few_calls(self):
        draw = random.Random(149)
        rule = (2, 3, 1, LARGEST)
        for plan in (Plan((), "left"), Plan((), "right"), ROUND, Plan((L, R), "left"), drawn_plan(draw)):
            worths = [1] * len(beginning_paper(plan, 150, 200))
            with_few_calls(lambda: carried_on(rule, plan, 150, 200, worths))


if __name__ == "__main__":
    unittest.main()

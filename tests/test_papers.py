import random
import unittest

from lumpplans.digits import depth, lump_at, path_of
from lumpplans.errors import BadPlace, TooGreat, TooMany
from lumpplans.papers import beginning_paper, judge_beginning_paper, judge_thing_paper, thing_paper
from lumpplans.plans import Plan
from lumpplans.shapes import comb
from tests.growing import AGAIN, growing_plans, parts_at
from tests.samples import NO_TUPLES, TWO, L, R, check_new_list, drawn_table, with_few_calls
from tests.test_digits import NO_PLACES, great_plans
from tests.test_pressing import EXAMPLE

GREAT = 10 ** 30
ROUND = Plan((), (TWO,))


def beside(parts, i):
    """Return the thing paper for a place, by a dict of all lumps."""
    above = sorted([lump for lump in parts if lump[0] <= i < lump[1]], key=lambda lump: lump[1] - lump[0])
    found = []
    for lower, upper in zip(above, above[1:]):
        found.append((lower[1], upper[1]) if lower[0] == upper[0] else (upper[0], lower[0]))
    return found


class ThingPaperTest(unittest.TestCase):
    def check_judge(self, plan, n, i, paper):
        """Check that a paper alone is judged to be right, as a list or a tuple."""
        self.assertIs(judge_thing_paper(plan, n, i, paper), True)
        self.assertIs(judge_thing_paper(plan, n, i, tuple(paper)), True)
        wrong = [paper[:-1], paper + [(0, 1)], paper[::-1], paper + [paper], [paper], [list(pair) for pair in paper]]
        for k, (x, y) in enumerate(paper):
            for other in ((x, y + 1), (x + 1, y), (y, x), [x, y], (x, y, 0), (x,), (), x, None, (str(x), y), (x, [y])):
                wrong.append(paper[:k] + [other] + paper[k + 1:])
            if x <= 1:
                wrong.append(paper[:k] + [(bool(x), y)] + paper[k + 1:])
            if y == 1:
                wrong.append(paper[:k] + [(x, True)] + paper[k + 1:])
        for value in wrong:
            # True and 1 are equal, but True is no number here.
            expected = repr(value) == repr(paper)
            self.assertIs(judge_thing_paper(plan, n, i, value), expected, value)
            self.assertIs(judge_thing_paper(plan, n, i, tuple(value)), expected, value)

    def test_examples(self):
        self.assertEqual(thing_paper(ROUND, 7, 3), [(2, 3), (0, 2), (4, 7)])
        self.assertEqual(thing_paper(EXAMPLE, 7, 3), [(2, 3), (0, 2), (4, 6), (6, 7)])

    def test_pressed_rows(self):
        for plan in growing_plans():
            for n in (1, 2, 3, 4, 5, 7, 9, 12, 17, 26):
                parts = parts_at(plan, n)
                for i in range(n):
                    paper = thing_paper(plan, n, i)
                    self.assertEqual(paper, beside(parts, i))
                    self.assertEqual(len(paper), depth(plan, n, i))
                    if n in (1, 2, 5, 12):
                        self.check_judge(plan, n, i, paper)

    def test_judge_anything(self):
        for value in NO_TUPLES + ((), {}, {(2, 3): 1}, "(2, 3)", ((2, 3), (0, 2), (4, 7), (7, 8)), 3):
            self.assertIs(judge_thing_paper(ROUND, 7, 3, value), False)
        self.assertIs(judge_thing_paper(ROUND, 1, 0, []), True)
        self.assertIs(judge_thing_paper(ROUND, 1, 0, ()), True)
        for value in (None, "", {}, 0, False, [()], [[]]):
            self.assertIs(judge_thing_paper(ROUND, 1, 0, value), False)

    def test_what_is_no_place(self):
        for plan in (ROUND, EXAMPLE, Plan((), "right")):
            for value in NO_PLACES + (7, 10 ** 40, GREAT, 1.5, [[7]]):
                for call in (
                        lambda: thing_paper(plan, 7, value), lambda: judge_thing_paper(plan, 7, value, []),
                        lambda: judge_thing_paper(plan, 7, value, None)):
                    with self.assertRaises(BadPlace) as caught:
                        call()
                    self.assertIs(caught.exception.number, value)

    def test_too_great(self):
        left = Plan((), "left")
        for n, i in ((401, 0), (401, 1), (402, 2), (GREAT, GREAT - 400)):
            self.assertEqual(len(thing_paper(left, n, i)), 400)
            self.check_places(left, n, i, thing_paper(left, n, i))
        for n, i in ((402, 0), (403, 2), (GREAT, 0), (GREAT, GREAT - 401)):
            with self.assertRaises(TooGreat):
                thing_paper(left, n, i)
            self.assertIs(judge_thing_paper(left, n, i, []), False)
        with self.assertRaises(BadPlace):
            thing_paper(left, GREAT, GREAT)
        with self.assertRaises(TooGreat):
            thing_paper(Plan((), "right"), GREAT, 401)

    def test_judge_of_long_papers(self):
        """A paper of more than 400 lumps is judged, too."""
        paper = [(0, 5)] + [(k, k + 1) for k in range(6, 1000)]
        self.assertIs(judge_thing_paper(Plan((), "left"), 1000, 5, paper), True)
        self.assertIs(judge_thing_paper(Plan((), "left"), 1001, 5, paper), False)
        paper[500] = (507, 508)
        self.assertIs(judge_thing_paper(Plan((), "left"), 1000, 5, paper), False)
        right = [(401, GREAT)] + [(k, k + 1) for k in range(399, -1, -1)]
        self.assertIs(judge_thing_paper(Plan((), "right"), GREAT, 400, right), True)
        self.assertIs(judge_thing_paper(Plan((), "right"), GREAT, 400, right[:-1]), False)

    def check_places(self, plan, n, i, paper):
        """Check that a paper has all places but i, and only lumps that stand beside the path."""
        at = (i, i + 1)
        for x, y in paper:
            self.assertIn(at[0 if x < i else 1], (x, y))
            at = (min(at[0], x), max(at[1], y))
        self.assertEqual(at, (0, n))

    def test_great_numbers(self):
        draw = random.Random(131)
        for one, other in great_plans():
            for n in (GREAT, GREAT - 1, 2 ** 99, draw.randrange(1, GREAT)):
                for i in (0, n - 1, n // 2, draw.randrange(n), n - 50):
                    if depth(one, n, i) > 400:
                        with self.assertRaises(TooGreat):
                            thing_paper(one, n, i)
                        continue
                    paper = thing_paper(one, n, i)
                    self.assertEqual(paper, thing_paper(other, n, i))
                    self.assertIs(judge_thing_paper(other, n, i, paper), True)
                    self.check_places(one, n, i, paper)
                    path = path_of(one, n, i, i + 1)
                    for k in range(len(path)):
                        step = (1 - path[k],)
                        self.assertEqual(lump_at(one, n, path[:k] + step), paper[len(path) - 1 - k])

    def test_new_lists(self):
        check_new_list(self, lambda: thing_paper(ROUND, 7, 3))
        for lump in thing_paper(ROUND, 7, 3):
            self.assertIs(type(lump), tuple)


def right_pairs(plan, n, more):
    """Return the pairs of which a beginning paper may consist, by the texts of both shapes."""
    then = parts_at(plan, n)
    now = parts_at(plan, more)
    return [(i, j) for i, j in now if i >= n or j <= n and then.get((i, j)) == now[(i, j)]]


def all_sharings(more):
    """Return all lists of pairs that share out the places from 0 to more - 1."""
    found = []
    for mask in range(2 ** (more - 1)):
        ends = [at for at in range(1, more) if mask >> (at - 1) & 1] + [more]
        found.append(list(zip([0] + ends, ends)))
    return found


class BeginningPaperTest(unittest.TestCase):
    def test_examples(self):
        self.assertEqual(beginning_paper(ROUND, 5, 7), [(0, 4), (4, 5), (5, 6), (6, 7)])
        self.assertEqual(beginning_paper(Plan((), (AGAIN,)), 2, 3), [(0, 2), (2, 3)])
        self.assertEqual(beginning_paper(Plan((), "left"), 3, 6), [(0, 3), (3, 4), (4, 5), (5, 6)])
        self.assertEqual(beginning_paper(Plan((), "right"), 3, 6), [(0, 1), (1, 2), (2, 3), (3, 6)])

    def test_all_sharings(self):
        draw = random.Random(132)
        for plan in growing_plans():
            more = draw.randint(6, 9)
            sharings = all_sharings(more)
            for n in range(1, more):
                right = right_pairs(plan, n, more)
                papers = []
                for pairs in sharings:
                    wrong = [k for k, pair in enumerate(pairs) if pair not in right]
                    expected = ("lump", wrong[0]) if wrong else None
                    self.assertEqual(judge_beginning_paper(plan, n, more, pairs), expected)
                    if not wrong:
                        papers.append(pairs)
                fewest = min(len(pairs) for pairs in papers)
                self.assertEqual([pairs for pairs in papers if len(pairs) == fewest], [beginning_paper(plan, n, more)])

    def test_longer_rows(self):
        draw = random.Random(133)
        for plan in growing_plans():
            for _ in range(12):
                n = draw.randint(1, 45)
                more = n + draw.randint(1, 20)
                right = right_pairs(plan, n, more)
                greatest = [
                    (i, j) for i, j in right if not any((x, y) != (i, j) and x <= i and j <= y for x, y in right)]
                paper = beginning_paper(plan, n, more)
                self.assertEqual(paper, sorted(greatest))
                self.assertIs(judge_beginning_paper(plan, n, more, paper), None)
                self.assertIs(judge_beginning_paper(plan, n, more, tuple(paper)), None)
                self.check_finer(draw, plan, n, more, paper)

    def check_finer(self, draw, plan, n, more, paper):
        """Check that a paper with lumps shared out further is judged to be right."""
        pairs = list(paper)
        while True:
            wide = [k for k, (i, j) in enumerate(pairs) if j - i > 1]
            if not wide:
                break
            k = draw.choice(wide)
            path = path_of(plan, more, *pairs[k])
            pairs[k:k + 1] = [lump_at(plan, more, path + (step,)) for step in (0, 1)]
            self.assertIs(judge_beginning_paper(plan, n, more, pairs), None)

    def test_form(self):
        for value in NO_TUPLES + (
                [(0, 2), [2, 3]], [(0, 2), (2,)], [(0, 2), (2, 3, 4)], [(0, True), (1, 3)], [(False, 3)], [(0, "3")],
                [(0, 3), None], ((0, 3), ()), [0, 3], (0, 3), "((0, 3))", {(0, 3): 1}, [(0, None)], [(0, (3,))],
                [((0, 1), (1, 3))], [ROUND]):
            expected = ("share", 0) if value == [] else ("form",)
            self.assertEqual(judge_beginning_paper(ROUND, 1, 3, value), expected, value)

    def test_share(self):
        for value, k in (
                ([], 0), ((), 0), ([(1, 3)], 0), ([(0, 0), (0, 3)], 0), ([(0, 4)], 0), ([(0, -1)], 0), ([(-1, 3)], 0),
                ([(0, 2)], 1), ([(0, 1)], 1), ([(0, 1), (1, 2)], 2), ([(0, 1), (2, 3)], 1), ([(0, 2), (1, 3)], 1),
                ([(0, 1), (1, 1), (1, 3)], 1), ([(0, 3), (3, 4)], 1), ([(0, 3), (3, 3)], 1), ([(0, 3), (0, 3)], 1),
                ([(0, 1), (1, 4)], 1), ([(0, 10 ** 40)], 0), ([(0, 2), (2, 1), (1, 3)], 1), ([(0, 3), (3, 2)], 1)):
            self.assertEqual(judge_beginning_paper(ROUND, 1, 3, value), ("share", k), value)
            self.assertEqual(judge_beginning_paper(ROUND, 1, 3, tuple(value)), ("share", k), value)

    def test_which_comes_first(self):
        """All members are looked at for one fault ahead of the next one."""
        self.assertEqual(judge_beginning_paper(ROUND, 1, 3, [(0, 2), (2, 3)]), ("lump", 0))
        self.assertEqual(judge_beginning_paper(ROUND, 1, 3, [(0, 2), (2, 4)]), ("share", 1))
        self.assertEqual(judge_beginning_paper(ROUND, 1, 3, [(0, 2)]), ("share", 1))
        self.assertEqual(judge_beginning_paper(ROUND, 1, 3, [(0, 2), (2, 4), (4, None)]), ("form",))
        self.assertEqual(judge_beginning_paper(ROUND, 1, 3, [(1, 0), [1, 3]]), ("form",))
        self.assertEqual(judge_beginning_paper(ROUND, 2, 7, [(0, 2), (2, 3), (3, 6), (6, 7)]), ("lump", 2))
        # A lump at both numbers, with another part.
        plan = Plan((), ((AGAIN[0], AGAIN[1], ((((), ()), ()), ())), L))
        self.assertIs(judge_beginning_paper(plan, 3, 4, [(0, 3), (3, 4)]), None)
        plan = Plan((), ((AGAIN[0], AGAIN[1], (((), ((), ())), ())), L))
        self.assertEqual(judge_beginning_paper(plan, 3, 4, [(0, 3), (3, 4)]), ("lump", 0))
        self.assertEqual(beginning_paper(plan, 3, 4), [(0, 1), (1, 2), (2, 3), (3, 4)])

    def test_great_numbers(self):
        draw = random.Random(134)
        judged = 0
        for one, other in great_plans():
            for n in (GREAT - 200, 2 ** 98, draw.randrange(1, GREAT // 2), draw.randrange(1, 300)):
                for more in (n + 1, n + 2, n + draw.randint(3, 100), 2 * n, n + draw.randrange(1, GREAT // 2)):
                    few = n if one.end() == "right" else more - n if one.end() == "left" else 0
                    if few > 10 ** 6:
                        for plan in (one, other):
                            with self.assertRaises(TooMany):
                                beginning_paper(plan, n, more)
                        continue
                    paper = beginning_paper(one, n, more)
                    judged += 1
                    self.assertEqual(paper, beginning_paper(other, n, more))
                    self.assertIs(judge_beginning_paper(one, n, more, paper), None)
                    for k in draw.sample(range(len(paper)), min(8, len(paper))):
                        self.check_greatest(one, n, more, paper, k)
        self.assertGreater(judged, 100)

    def check_greatest(self, plan, n, more, paper, k):
        """Check that the lump number k cannot be exchanged for the one that is pressed of it and another one."""
        x, y = lump_at(plan, more, path_of(plan, more, *paper[k])[:-1])
        first = [m for m, pair in enumerate(paper) if pair[0] == x]
        last = [m for m, pair in enumerate(paper) if pair[1] == y]
        if first and last:
            pairs = paper[:first[0]] + [(x, y)] + paper[last[0] + 1:]
            self.assertEqual(judge_beginning_paper(plan, n, more, pairs), ("lump", first[0]))

    def test_too_many(self):
        left = Plan((), "left")
        right = Plan((), "right")
        self.assertEqual(len(beginning_paper(left, 7, 406)), 400)
        self.assertEqual(len(beginning_paper(right, 399, GREAT)), 400)
        self.assertEqual(len(beginning_paper(left, GREAT - 399, GREAT)), 400)
        for plan, n, more in (
                (left, 7, 407), (left, 1, GREAT), (right, 400, 401), (right, 400, GREAT), (right, GREAT - 1, GREAT),
                (Plan((TWO,), "left"), 1, GREAT), (Plan((TWO, L), "right"), GREAT // 2, GREAT)):
            with self.assertRaises(TooMany):
                beginning_paper(plan, n, more)
        # Behind each stage there are 59 lumps, ahead of n and behind it.
        table = tuple(comb(m, "left") for m in range(2, 61))
        for many in range(1, 7):
            self.assertEqual(len(beginning_paper(Plan((), (table,)), 1, 60 ** many)), many * 59 + 1)
        plan = Plan((table,) * 6, (tuple(comb(m, "left") for m in range(2, 48)),))
        self.assertEqual(len(beginning_paper(plan, 1, 60 ** 6 * 46)), 400)
        with self.assertRaises(TooMany):
            beginning_paper(plan, 1, 60 ** 6 * 47)
        pairs = [(0, 1)] + [(60 ** k * m, 60 ** k * (m + 1)) for k in range(7) for m in range(1, 60 if k < 6 else 47)]
        self.assertEqual(len(pairs), 401)
        self.assertIs(judge_beginning_paper(plan, 1, 60 ** 6 * 47, pairs), None)

    def test_new_lists(self):
        check_new_list(self, lambda: beginning_paper(ROUND, 5, 7))
        for lump in beginning_paper(ROUND, 5, 7):
            self.assertIs(type(lump), tuple)

    def test_few_calls(self):
        draw = random.Random(135)
        deep = tuple(comb(m, "right") for m in range(2, 61))
        for plan in (Plan((), (TWO,)), Plan((), (deep, R)), Plan((), (drawn_table(draw, 60),))):
            paper = with_few_calls(lambda: beginning_paper(plan, 60 ** 4 - 7, GREAT))
            self.assertIs(with_few_calls(lambda: judge_beginning_paper(plan, 60 ** 4 - 7, GREAT, paper)), None)
            with_few_calls(lambda: thing_paper(plan, 60 ** 3 - 7, 60 ** 3 - 100))


if __name__ == "__main__":
    unittest.main()

import random
import unittest

from lumpplans.gluing import glue, glued
from lumpplans.plainforms import are_alike, plain, prime_list
from lumpplans.plans import Plan
from lumpplans.primes import is_prime_table, primes
from tests import oracles
from tests.samples import (
    TWO, L, R, TWO_TWO, TWO_L, PRIME_SIX, check_new_list, drawn_plan, drawn_table, near_plans, told_otherwise,
)

L_TWO = glue(L, TWO)
NUMBERS = tuple(range(1, 41)) + (47, 60, 61, 64, 65, 81, 96, 97, 120, 200)


def plans():
    draw = random.Random(40)
    return [drawn_plan(draw, 4) for _ in range(12)] + [
        Plan((), "left"), Plan((), "right"), Plan((), (TWO,)), Plan((TWO,), "left"), Plan((TWO_L, TWO), "right"),
        Plan((), (TWO, L)), Plan((), (L, TWO)), Plan((TWO,), (L, TWO)), Plan((R, L), (TWO, R, TWO, R)),
    ]


def texts(plan):
    """Return the texts of the shapes of a plan at many numbers."""
    return [oracles.plan_shape(plan, n) for n in NUMBERS]


class ExamplesTest(unittest.TestCase):
    def test_rounds_of_two(self):
        two = Plan((), (TWO,))
        for plan in (Plan((), (TWO_TWO,)), Plan((TWO,), (TWO, TWO)), Plan((TWO, TWO_TWO), (TWO_TWO, TWO))):
            self.assertEqual(plain(plan), two)
            self.assertIs(are_alike(plan, two), True)
            self.assertIs(are_alike(two, plan), True)

    def test_begun_later(self):
        self.assertEqual(plain(Plan((TWO,), (L, TWO))), Plan((), (TWO, L)))
        self.assertEqual(plain(Plan((L, TWO), (TWO, TWO))), Plan((L,), (TWO,)))

    def test_unlike_rounds(self):
        self.assertIs(are_alike(Plan((), (TWO, L)), Plan((), (L, TWO))), False)

    def test_left_and_right(self):
        self.assertIs(are_alike(Plan((TWO,), "left"), Plan((TWO,), "right")), False)
        self.assertIs(are_alike(Plan((), "left"), Plan((), "right")), False)
        self.assertIs(are_alike(Plan((TWO,), "left"), Plan((), (TWO,))), False)


class PrimeListTest(unittest.TestCase):
    def test_many(self):
        plan = Plan((TWO_L, R), (L_TWO, TWO))
        written = [TWO, L, R] + [L, TWO, TWO] * 20
        for many in range(61):
            found = prime_list(plan, many)
            self.assertEqual(found, written[:many])
            self.assertIs(type(found), list)

    def test_fewer(self):
        for end in ("left", "right"):
            plan = Plan((TWO_L, R), end)
            for many in range(61):
                self.assertEqual(prime_list(plan, many), [TWO, L, R][:many])
                self.assertEqual(prime_list(Plan((), end), many), [])

    def test_drawn_plans(self):
        for plan in plans():
            for many in (0, 1, 2, 5, 60):
                written = []
                for k in range(60):
                    if plan.stage(k) is not None:
                        written.extend(primes(plan.stage(k)))
                self.assertEqual(prime_list(plan, many), written[:many])

    def test_new_lists(self):
        check_new_list(self, lambda: prime_list(Plan((TWO,), (L,)), 5))
        check_new_list(self, lambda: prime_list(Plan((), "left"), 5))


class PlainTest(unittest.TestCase):
    def test_of_a_plain_form(self):
        for plan in plans():
            form = plain(plan)
            self.assertEqual(plain(form), form)
            self.assertIs(type(form), Plan)
            self.assertIs(type(form.tables()), tuple)
            for table in form.tables():
                self.assertIs(is_prime_table(table), True)
            if not isinstance(plan.end(), str):
                self.assertIs(type(form.end()), tuple)
            else:
                self.assertEqual(form.end(), plan.end())

    def test_the_shortest(self):
        """A round is no power, and the last prime ahead is not that of the round."""
        for plan in plans():
            form = plain(plan)
            end = form.end()
            if isinstance(end, tuple):
                for many in range(1, len(end)):
                    self.assertNotEqual(end[many:] + end[:many], end)
                if form.tables():
                    self.assertNotEqual(form.tables()[-1], end[-1])
            self.assertEqual(prime_list(form, 60), prime_list(plan, 60))

    def test_each_word_of_two_primes(self):
        """All short words ahead and as rounds have equal plain forms if they go on equally."""
        words = [()]
        for _ in range(3):
            words = words + [word + (prime,) for word in words for prime in (TWO, R) if word + (prime,) not in words]
        forms = []
        for ahead in words:
            for again in words:
                if again:
                    plan = Plan(ahead, again)
                    forms.append((prime_list(plan, 30), plain(plan)))
        for written, form in forms:
            for other, another in forms:
                self.assertIs(written == other, form == another)

    def test_many_tables(self):
        plan = Plan((glued([TWO, TWO, TWO, L]),) * 6, (glued([TWO, L, TWO, R]),) * 6)
        form = plain(plan)
        self.assertEqual(form, Plan((TWO, TWO, TWO, L) * 6, (TWO, L, TWO, R)))
        self.assertEqual(plain(form), form)


class AlikeTest(unittest.TestCase):
    def test_told_otherwise(self):
        draw = random.Random(41)
        for plan in plans():
            shapes = texts(plan)
            for other in told_otherwise(draw, plan):
                self.assertIs(are_alike(plan, other), True)
                self.assertEqual(plain(plan), plain(other))
                self.assertEqual(texts(other), shapes)

    def test_one_entry_otherwise(self):
        draw = random.Random(42)
        for plan in plans():
            shapes = texts(plan)
            for other in near_plans(draw, plan):
                alike = are_alike(plan, other)
                self.assertIs(type(alike), bool)
                if texts(other) != shapes:
                    self.assertIs(alike, False)
                if alike:
                    self.assertEqual(texts(other), shapes)

    def test_drawn_pairs(self):
        found = [(plan, texts(plan)) for plan in plans()]
        for one, one_texts in found:
            for other, other_texts in found:
                self.assertIs(are_alike(one, other), one_texts == other_texts)

    def test_great_tables(self):
        draw = random.Random(43)
        tables = [drawn_table(draw, 12) for _ in range(6)]
        plan = Plan(tables, tuple(tables))
        self.assertIs(are_alike(plan, Plan((), tuple(tables) * 2)), True)
        self.assertIs(are_alike(plan, Plan(tables[:5], tuple(tables))), False)
        self.assertIs(are_alike(Plan((PRIME_SIX,), "left"), Plan((TWO_L,), "left")), False)


if __name__ == "__main__":
    unittest.main()

import random
import unittest

from lumpplans.exchanges import commute, exchanges, turning, turns_into
from lumpplans.gluing import glue
from lumpplans.plainforms import are_alike, plain
from lumpplans.plans import Plan
from lumpplans.primes import primes
from lumpplans.tables import table_size
from lumpplans.tablewords import power, root
from tests.samples import TWO, L, R, TWO_TWO, PRIME_SIX, check_new_list, drawn_plan, drawn_table
from tests.wordsamples import A, B, E, LARGEST, TABLES, WORDS, near_tables, words


class ExamplesTest(unittest.TestCase):
    def test_turning(self):
        self.assertIs(turns_into(A, [E], B), True)
        self.assertIs(turns_into(A, [], B), False)
        self.assertEqual(turning(A, B), [E])
        self.assertEqual(turning(B, A), [L])

    def test_powers(self):
        self.assertIs(commute(power(E, 3), power(E, 2)), True)
        self.assertIs(commute(power(E, 3), A), False)

    def test_exchanges(self):
        self.assertEqual(exchanges(Plan((E, power(E, 2), L), "left")), [0])


class CommuteTest(unittest.TestCase):
    def test_by_gluing(self):
        for one in TABLES + [R, PRIME_SIX]:
            for other in TABLES + [R, PRIME_SIX]:
                if table_size(one) * table_size(other) <= LARGEST:
                    self.assertIs(commute(one, other), glue(one, other) == glue(other, one))

    def test_exactly_if_the_roots_are_equal(self):
        for one in TABLES:
            for other in TABLES:
                self.assertIs(commute(one, other), root(one)[0] == root(other)[0])
                self.assertIs(commute(other, one), primes(one) + primes(other) == primes(other) + primes(one))

    def test_tables_too_great_to_be_glued(self):
        one = power(TWO, 5)
        table = drawn_table(random.Random(74), 12)
        self.assertIs(commute(one, power(TWO, 4)), True)
        self.assertIs(commute(one, table), False)
        self.assertIs(commute(table, table), True)


class TurningTest(unittest.TestCase):
    def test_each_list(self):
        lists = [()] + words((TWO, L), 5, 10 ** 6)
        for word, one in zip(WORDS, TABLES):
            for other_word, other in zip(WORDS, TABLES):
                right = [x for x in lists if word + x == x + other_word]
                for x in lists[:15]:
                    self.assertIs(turns_into(one, list(x), other), x in right)
                    self.assertIs(turns_into(one, x, other), x in right)
                found = turning(one, other)
                if right:
                    self.assertEqual(found, list(right[0]))
                    self.assertIs(turns_into(one, found, other), True)
                    longer = primes(root(one)[0]) + found
                    self.assertIs(turns_into(one, longer, other), True)
                    self.assertLess(len(found), len(primes(root(one)[0])))
                else:
                    self.assertIs(found, None)

    def test_the_empty_list(self):
        for table in TABLES + near_tables():
            self.assertIs(turns_into(table, [], table), True)
            self.assertIs(turns_into(table, (), table), True)
            self.assertEqual(turning(table, table), [])
        self.assertIs(turns_into(TWO, [], L), False)
        self.assertIs(turning(TWO, L), None)
        self.assertIs(turning(TWO, TWO_TWO), None)

    def test_lists_of_other_primes(self):
        self.assertIs(turns_into(TWO, [TWO, TWO, TWO], TWO), True)
        self.assertIs(turns_into(TWO, [L], TWO), False)
        self.assertIs(turns_into(A, [E, L, E], B), True)
        self.assertIs(turns_into(A, [E, L], B), False)
        self.assertIs(turns_into(A, [E] + [L, E] * 20, B), True)
        self.assertIs(turns_into(A, [E] + [L, E] * 29 + [L], B), False)

    def test_new_lists(self):
        check_new_list(self, lambda: turning(A, B))
        check_new_list(self, lambda: turning(A, A))


class ExchangesTest(unittest.TestCase):
    def alike_exchanges(self, plan):
        """Return all k such that the plan with the tables k and k + 1 exchanged is alike."""
        tables = plan.tables()
        found = []
        for k in range(len(tables) - 1):
            other = Plan(tables[:k] + (tables[k + 1], tables[k]) + tables[k + 2:], plan.end())
            if are_alike(plan, other):
                found.append(k)
        return found

    def test_by_plain_forms(self):
        draw = random.Random(75)
        choices = [TWO, TWO_TWO, power(TWO, 3), L, power(L, 2), A, A, B, R, PRIME_SIX]
        for _ in range(60):
            tables = [draw.choice(choices) for _ in range(draw.randint(0, 6))]
            for end in ("left", "right", (TWO,), (A, B)):
                plan = Plan(tables, end)
                self.assertEqual(exchanges(plan), self.alike_exchanges(plan))
        for _ in range(10):
            plan = drawn_plan(draw)
            self.assertEqual(exchanges(plan), self.alike_exchanges(plan))

    def test_powers_of_one_table(self):
        plan = Plan((A, power(A, 2), A, B, power(TWO, 2), TWO), (TWO, TWO))
        self.assertEqual(exchanges(plan), [0, 1, 4])
        self.assertEqual(exchanges(Plan((TWO,) * 6, "left")), [0, 1, 2, 3, 4])

    def test_few_tables(self):
        for end in ("left", "right", (TWO, TWO)):
            self.assertEqual(exchanges(Plan((), end)), [])
            self.assertEqual(exchanges(Plan((TWO,), end)), [])

    def test_plain_forms(self):
        form = plain(Plan((power(TWO, 4), power(L, 3), power(TWO, 5)) * 2, "right"))
        self.assertEqual(len(form.tables()), 24)
        self.assertEqual(exchanges(form), [k for k in range(23) if form.stage(k) == form.stage(k + 1)])

    def test_new_lists(self):
        check_new_list(self, lambda: exchanges(Plan((E, E, L), "left")))


if __name__ == "__main__":
    unittest.main()

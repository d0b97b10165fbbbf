import random
import unittest

from lumpplans.errors import Unlike
from lumpplans.lengths import lacking
from lumpplans.plans import Plan
from lumpplans.pressing import shape
from lumpplans.readback import entries_told
from lumpplans.readings import Reading, misfit
from lumpplans.shapes import comb
from tests import oracles
from tests.samples import P, Q, L, R, TWO, check_new_list, drawn_shape, with_few_calls
from tests.test_readback import ENDS, SMALL_SIZES, drawn_plan_of, drawn_sizes, other_shape, plans_of

CATALAN = (None, 1, 1, 2, 5, 14, 42, 132, 429, 1430, 4862, 16796, 58786)


def looked(sizes, end, pairs, pair):
    """Return the misfit of a pair, by the texts of the shapes and in the order of S9.7."""
    known = {}
    for n, made in pairs + [pair]:
        text = oracles.text_of(made)
        for k, size in enumerate(sizes):
            found = oracles.ranges(text)
            stretches = oracles.pairs_of(text.count("o"), size)
            for s, stretch in enumerate(stretches):
                if stretch not in found:
                    return ("lump", k, s)
            for s, (i, j) in enumerate(stretches):
                start, stop = found[(i, j)]
                if known.setdefault((k, j - i), text[start:stop]) != text[start:stop]:
                    return ("entry", k, s)
            for i, j in reversed(stretches):
                start, stop = found[(i, j)]
                text = text[:start] + "o" + text[stop:]
        if text != oracles.text_of(comb(text.count("o"), end)):
            return ("end",)
    return None


class MisfitTest(unittest.TestCase):
    def test_example(self):
        pairs = [(2, P), (3, ((), P))]
        self.assertEqual(misfit([3], "left", pairs, (4, ((P, ()), ()))), ("entry", 0, 0))
        self.assertIs(misfit([3], "left", pairs[:1], pairs[1]), None)

    def test_each_kind(self):
        lump_two = (P, (P, ()))
        for sizes, end, pairs, pair, expected in (
                ([2], "left", [], (4, (Q, ())), ("lump", 0, 1)),
                ([2], "left", [], (3, ((), P)), ("lump", 0, 0)),
                ([3], "left", [], (6, ((P, ()), ((), P))), ("entry", 0, 1)),
                ([2], "left", [], (6, (P, (P, P))), ("end",)),
                ([], "right", [], (3, Q), ("end",)),
                ([2, 2], "left", [], (8, (P, ((P, P), P))), ("lump", 1, 0)),
                ([2, 3], "left", [(5, lump_two)], (5, ((P, P), ())), ("entry", 1, 0)),
                ([2, 3], "left", [(5, lump_two)], (6, (P, (P, P))), None),
                ([3, 3], "right", [(3, Q)], (9, ((R[1], R[1]), R[1])), ("entry", 0, 0)),
                ([3, 3], "right", [(3, Q)], (9, ((Q, Q), R[1])), ("entry", 0, 2)),
                ([3, 3], "right", [(9, (Q, (Q, Q)))], (9, ((Q, Q), Q)), ("entry", 1, 0))):
            self.assertEqual(misfit(sizes, end, pairs, pair), expected)
            self.assertEqual(looked(sizes, end, pairs, pair), expected)

    def test_which_comes_first(self):
        # The stretches of all lumps are looked for first, then what they are pressed to, table by table.
        other = ((), P)
        for sizes, pairs, pair, expected in (
                ([3], [(3, Q)], (6, (other, (P, ()))), ("entry", 0, 0)),
                ([3], [(3, Q)], (6, ((other, ()), P)), ("lump", 0, 1)),
                ([3], [(3, Q)], (7, ((other, other), ())), ("entry", 0, 0)),
                ([3], [(3, Q)], (9, (Q, (Q, other))), ("entry", 0, 2)),
                ([2, 2], [], (8, ((P, ()), ((P, ()), P))), ("lump", 0, 1)),
                ([2, 2], [], (8, (((P, P), P), P)), ("lump", 1, 1)),
                ([3, 2], [(3, Q)], (9, (other, (Q, Q))), ("entry", 0, 0))):
            self.assertEqual(misfit(sizes, "left", pairs, pair), expected)
            self.assertEqual(looked(sizes, "left", pairs, pair), expected)

    def test_by_looking(self):
        draw = random.Random(190)
        kinds = {}
        for _ in range(400):
            sizes = [draw.randint(2, 5) for _ in range(draw.randint(0, 3))]
            plan = drawn_plan_of(draw, sizes, draw.choice(ENDS))
            pairs = [(n, shape(plan, n)) for n in [draw.randint(1, 25) for _ in range(draw.randint(0, 4))]]
            n = draw.randint(1, 25)
            made = shape(plan, n)
            for told in (made, other_shape(draw, made), drawn_shape(draw, n)):
                found = misfit(sizes, plan.end(), pairs, (n, told))
                self.assertEqual(found, looked(sizes, plan.end(), pairs, (n, told)))
                kinds[found and found[0]] = kinds.get(found and found[0], 0) + 1
                if found is not None:
                    self.assertIs(type(found), tuple)
                    with self.assertRaises(Unlike) as caught:
                        entries_told(sizes, plan.end(), pairs + [(n, told)])
                    self.assertEqual(caught.exception.number, len(pairs))
        self.assertEqual(set(kinds), {None, "lump", "entry", "end"})
        self.assertGreater(min(kinds.values()), 10)

    def test_few_calls(self):
        for side in ENDS:
            pair = (60, comb(60, side))
            with_few_calls(lambda: misfit([12] * 6, "left", [], pair))
            self.assertIs(with_few_calls(lambda: misfit([], side, [pair] * 59, pair)), None)


class ReadingTest(unittest.TestCase):
    def check(self, reading, sizes, end, pairs):
        """Check all that a reading tells against the pairs that were added to it."""
        self.assertEqual(reading.pairs(), pairs)
        self.assertEqual(reading.told(), entries_told(sizes, end, pairs))
        missing = lacking(sizes, [n for n, _ in pairs])
        self.assertEqual(reading.lacking(), missing)
        many = 1
        for _, m in missing:
            many *= CATALAN[m]
        self.assertEqual(reading.left(), many)

    def test_histories(self):
        draw = random.Random(191)
        refused = 0
        for _ in range(40):
            sizes = drawn_sizes(draw)
            end = draw.choice(ENDS)
            plan = drawn_plan_of(draw, sizes, end)
            reading = Reading(draw.choice([list, tuple])(sizes), end)
            pairs = []
            self.check(reading, sizes, end, pairs)
            for _ in range(12):
                n = draw.randint(1, 60)
                made = shape(plan, n)
                made = draw.choice([made, made, other_shape(draw, made)])
                expected = misfit(sizes, end, pairs, (n, made))
                if expected is None:
                    pairs.append((n, made))
                    self.assertEqual(reading.add(n, made), len(pairs))
                else:
                    refused += 1
                    with self.assertRaises(Unlike) as caught:
                        reading.add(n, made)
                    self.assertEqual(caught.exception.number, expected)
                self.check(reading, sizes, end, pairs)
        self.assertGreater(refused, 30)

    def test_left_by_counting(self):
        draw = random.Random(192)
        for sizes in SMALL_SIZES:
            for end in ENDS:
                plans = plans_of(sizes, end)
                plan = draw.choice(plans)
                reading = Reading(sizes, end)
                self.assertEqual(reading.left(), len(plans))
                for n in (1, 3, 4, 7, 13, 24, 25):
                    reading.add(n, shape(plan, n))
                    plans = [other for other in plans if shape(other, n) == shape(plan, n)]
                    self.assertEqual(reading.left(), len(plans))

    def test_no_sizes(self):
        for end in ENDS:
            reading = Reading([], end)
            self.assertEqual((reading.pairs(), reading.told(), reading.lacking(), reading.left()), ([], [], [], 1))
            self.assertEqual(reading.add(3, comb(3, end)), 1)
            self.assertEqual(reading.add(3, comb(3, end)), 2)
            with self.assertRaises(Unlike) as caught:
                reading.add(4, (P, P))
            self.assertEqual(caught.exception.number, ("end",))
            self.assertEqual(len(reading.pairs()), 2)

    def test_what_does_not_fit_tells_nothing(self):
        reading = Reading([3, 4], "left")
        # The first table fits, and tells an entry, but the second one does not.
        with self.assertRaises(Unlike) as caught:
            reading.add(9, (Q, (P, (Q[0], ()))))
        self.assertEqual(caught.exception.number, ("lump", 0, 1))
        # Of the stretches of four behind the first table the first one is no lump.
        row = [Q] * 8
        made = ((row[0], row[1]), ((row[2], row[3]), ((row[4], row[5]), (row[6], row[7]))))
        with self.assertRaises(Unlike) as caught:
            reading.add(24, made)
        self.assertEqual(caught.exception.number, ("lump", 1, 0))
        self.assertEqual(reading.told(), [[P, None], [P, None, None]])
        self.assertEqual((reading.lacking(), reading.left()), ([(0, 3), (1, 3), (1, 4)], 20))
        self.assertEqual(reading.add(3, R[1]), 1)
        self.assertEqual(reading.left(), 10)

    def test_great_sizes(self):
        reading = Reading([12] * 6, "right")
        expected = 1
        for m in range(2, 13):
            expected *= CATALAN[m] ** 6
        self.assertEqual(reading.left(), expected)
        self.assertEqual(len(reading.lacking()), 60)

    def test_twins(self):
        reading = Reading([3, 4], "left")
        reading.add(3, Q)
        other = reading.twin()
        self.assertIs(type(other), Reading)
        self.check(other, [3, 4], "left", [(3, Q)])
        self.assertEqual(reading.add(9, ((Q, Q), Q)), 2)
        self.assertEqual(other.add(7, (Q, (Q, ()))), 2)
        self.check(reading, [3, 4], "left", [(3, Q), (9, ((Q, Q), Q))])
        self.check(other, [3, 4], "left", [(3, Q), (7, (Q, (Q, ())))])
        with self.assertRaises(Unlike):
            other.add(9, ((Q, Q), Q))
        third = other.twin()
        self.assertEqual(third.add(1, ()), 3)
        self.assertEqual(len(other.pairs()), 2)

    def test_lists(self):
        sizes = [3, 4]
        reading = Reading(sizes, "left")
        sizes.append(5)
        sizes[0] = 2
        self.assertEqual(reading.told(), [[P, None], [P, None, None]])
        reading.add(3, Q)
        for call in (reading.pairs, reading.told, reading.lacking):
            check_new_list(self, call)
        reading.told()[1].append(Q)
        reading.told()[0].clear()
        self.assertEqual(reading.told(), [[P, Q], [P, None, None]])
        self.assertIs(type(reading.pairs()[0]), tuple)
        self.assertEqual(reading.told()[0], list(L))
        pairs = [(3, Q)]
        misfit([3], "left", pairs, (2, TWO[0]))
        self.assertEqual(pairs, [(3, Q)])


if __name__ == "__main__":
    unittest.main()

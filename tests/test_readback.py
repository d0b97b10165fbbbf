import itertools
import random
import unittest

from lumpplans.errors import Unlike
from lumpplans.lengths import fewest_lengths, used_entries
from lumpplans.plans import Plan
from lumpplans.pressing import shape
from lumpplans.readback import entries_told, fits_shape
from lumpplans.shapes import comb
from lumpplans.tables import entry
from tests.samples import NO_TUPLES, P, Q, L, R, drawn_shape, drawn_table, nested, shapes_of, tables_of, with_few_calls

ENDS = ("left", "right")
# All plans of these sizes are few enough to be gone through.
SMALL_SIZES = ((), (2,), (3,), (4,), (3, 3), (2, 3), (3, 2), (4, 2), (2, 2, 3), (3, 4))


def plans_of(sizes, end):
    return [Plan(tables, end) for tables in itertools.product(*[list(tables_of(size)) for size in sizes])]


def drawn_plan_of(draw, sizes, end):
    return Plan([drawn_table(draw, size) for size in sizes], end)


def drawn_sizes(draw):
    return [draw.randint(2, 12) for _ in range(draw.randint(0, 6))]


def other_shape(draw, made):
    """Return a shape of the same size with one part exchanged for a drawn one."""
    if made == ():
        return made
    step = draw.choice(["here", 0, 1])
    if step == "here":
        return drawn_shape(draw, size_by_text(made))
    parts = list(made)
    parts[step] = other_shape(draw, parts[step])
    return tuple(parts)


def size_by_text(made):
    """Return the size of a shape, by the () in its text."""
    return repr(made).count("()")


def told_of(plan, used):
    """Return what is told if the entries that are used are known."""
    return [
        [entry(table, m) if m == 2 or (k, m) in used else None for m in range(2, len(table) + 2)]
        for k, table in enumerate(plan.tables())]


class FitsShapeTest(unittest.TestCase):
    def test_examples(self):
        self.assertIs(fits_shape([3], "left", 2, P), True)
        self.assertIs(fits_shape([3], "left", 3, ((), P)), True)
        self.assertIs(fits_shape([3], "left", 4, ((P, ()), ())), True)

    def test_all_plans_of_small_sizes(self):
        fitting = 0
        for sizes in SMALL_SIZES:
            for end in ENDS:
                plans = plans_of(sizes, end)
                for n in range(1, 8):
                    shown = {repr(shape(plan, n)) for plan in plans}
                    for made in shapes_of(n):
                        fits = fits_shape(list(sizes), end, n, made)
                        self.assertIs(fits, repr(made) in shown, (sizes, end, n, made))
                        fitting += fits
        self.assertGreater(fitting, 250)

    def test_drawn_plans(self):
        draw = random.Random(170)
        for _ in range(60):
            sizes = drawn_sizes(draw)
            end = draw.choice(ENDS)
            plan = drawn_plan_of(draw, sizes, end)
            for n in [draw.randint(1, 60) for _ in range(6)] + [60]:
                made = shape(plan, n)
                self.assertIs(fits_shape(sizes, end, n, made), True)
                self.assertIs(fits_shape(tuple(sizes), end, n, made), True)
                for other in (n - 1, n + 1):
                    self.assertIs(fits_shape(sizes, end, other, made), False)

    def test_a_shape_alone_may_not_fit(self):
        # Two stretches of three are pressed in two ways.
        self.assertIs(fits_shape([3], "left", 6, ((P, ()), ((), P))), False)
        self.assertIs(fits_shape([3], "left", 6, (Q, Q)), True)
        # Of the stretches of two the second one is no lump.
        self.assertIs(fits_shape([2], "left", 4, (Q, ())), False)
        self.assertIs(fits_shape([2], "left", 6, (P, (P, P))), False)
        self.assertIs(fits_shape([2], "right", 6, (P, (P, P))), True)
        self.assertIs(fits_shape([], "left", 4, comb(4, "left")), True)
        self.assertIs(fits_shape([], "left", 4, comb(4, "right")), False)

    def test_anything(self):
        for value in NO_TUPLES + (
                ((),), ((), (), ()), ((), []), [(), ()], ((), P, ()), ((), ((), None)), (P, "()"), nested(60, None, 0),
                nested(60, ((),), 1), (True, False), {"a": P}):
            for n in (1, 2, 3):
                for sizes in ([], [2], [3, 4]):
                    self.assertIs(fits_shape(sizes, "left", n, value), False, repr(value))
        for n in range(1, 6):
            for made in [(), P, Q, (P, P), (Q, P)]:
                self.assertIs(fits_shape([], "left", n, made), made == comb(n, "left"))
        self.assertIs(fits_shape([2] * 6, "right", 1, ()), True)

    def test_few_calls(self):
        for side in ENDS:
            made = comb(60, side)
            for sizes in ([], [2], [12] * 6):
                expected = sizes == []
                self.assertIs(with_few_calls(lambda: fits_shape(sizes, side, 60, made)), expected)


class EntriesToldTest(unittest.TestCase):
    def check_unlike(self, sizes, end, pairs, number):
        for told in (pairs, tuple(pairs)):
            with self.assertRaises(Unlike) as caught:
                entries_told(sizes, end, told)
            self.assertEqual(caught.exception.number, number)

    def test_examples(self):
        pairs = [(2, P), (3, ((), P))]
        self.assertEqual(entries_told([3], "left", pairs), [list(R)])
        self.check_unlike([3], "left", pairs + [(4, ((P, ()), ()))], 2)

    def test_without_pairs(self):
        self.assertEqual(entries_told([], "left", []), [])
        self.assertEqual(entries_told([2, 4, 3], "right", []), [[P], [P, None, None], [P, None]])
        self.assertEqual(entries_told([4], "left", [(1, ()), (2, P)]), [[P, None, None]])

    def test_no_sizes(self):
        for end in ENDS:
            pairs = [(n, comb(n, end)) for n in range(1, 61)]
            self.assertEqual(entries_told([], end, pairs), [])
            other = "left" if end == "right" else "right"
            for k in (0, 5):
                self.check_unlike([], end, pairs[:k] + [(3, comb(3, other))], k)

    def test_used_entries_are_told(self):
        draw = random.Random(171)
        for _ in range(80):
            sizes = drawn_sizes(draw)
            plan = drawn_plan_of(draw, sizes, draw.choice(ENDS))
            numbers = [draw.randint(1, 60) for _ in range(draw.randint(0, 12))]
            numbers = numbers + numbers[:draw.randint(0, 3)]
            draw.shuffle(numbers)
            pairs = [(n, shape(plan, n)) for n in numbers]
            used = {pair for n in numbers for pair in used_entries(sizes, n)}
            found = entries_told(sizes, plan.end(), pairs)
            self.assertEqual(found, told_of(plan, used))
            self.assertEqual(entries_told(tuple(sizes), plan.end(), tuple(pairs)), found)

    def test_telling_lengths(self):
        draw = random.Random(172)
        for sizes in ([3], [4, 2], [3, 3], [5], [2, 5], [7]):
            plan = drawn_plan_of(draw, sizes, "right")
            lengths = fewest_lengths(sizes)
            self.assertLessEqual(max(lengths), 60)
            found = entries_told(sizes, "right", [(n, shape(plan, n)) for n in lengths])
            self.assertEqual(found, [list(table) for table in plan.tables()])

    def test_first_pair_that_does_not_fit(self):
        """It is the one at which no plan of the sizes has all of the shapes any more."""
        draw = random.Random(173)
        seen = set()
        for sizes in SMALL_SIZES:
            for end in ENDS:
                plans = plans_of(sizes, end)
                for _ in range(30):
                    pairs = []
                    for _ in range(5):
                        n = draw.randint(1, 12)
                        made = shape(draw.choice(plans), n)
                        pairs.append((n, draw.choice([made, made, other_shape(draw, made)])))
                    left = plans
                    number = None
                    for k, (n, made) in enumerate(pairs):
                        left = [plan for plan in left if shape(plan, n) == made]
                        if not left:
                            number = k
                            break
                    seen.add(number)
                    if number is None:
                        found = entries_told(sizes, end, pairs)
                        used = {pair for n, _ in pairs for pair in used_entries(sizes, n)}
                        for plan in left:
                            self.assertEqual(found, told_of(plan, used))
                    else:
                        self.check_unlike(sizes, end, pairs, number)
        self.assertEqual(seen, {None, 0, 1, 2, 3, 4})

    def test_shapes_with_one_part_otherwise(self):
        """A shape with one part otherwise does not fit, or tells another plan with these sizes."""
        draw = random.Random(174)
        unlike = 0
        for _ in range(60):
            sizes = [draw.randint(2, 6) for _ in range(draw.randint(1, 3))]
            end = draw.choice(ENDS)
            plan = drawn_plan_of(draw, sizes, end)
            n = draw.randint(10, 60)
            made = other_shape(draw, shape(plan, n))
            try:
                found = entries_told(sizes, end, [(n, made)])
            except Unlike as error:
                unlike += 1
                self.assertEqual(error.number, 0)
                self.assertIs(fits_shape(sizes, end, n, made), False)
                continue
            self.assertIs(fits_shape(sizes, end, n, made), True)
            tables = [
                tuple(part if part is not None else comb(m + 2, "left") for m, part in enumerate(entries))
                for entries in found]
            self.assertEqual(shape(Plan(tables, end), n), made)
        self.assertGreater(unlike, 30)

    def test_lists(self):
        sizes = [3, 4]
        pairs = [(3, Q)]
        found = entries_told(sizes, "left", pairs)
        self.assertEqual((sizes, pairs), ([3, 4], [(3, Q)]))
        again = entries_told(sizes, "left", pairs)
        self.assertEqual(found, again)
        found[0].clear()
        found.clear()
        self.assertEqual(entries_told(sizes, "left", pairs), again)
        self.assertTrue(all(type(entries) is list for entries in again))
        same = entries_told([3, 3], "left", [])
        self.assertIsNot(same[0], same[1])
        self.assertEqual(again, [list(L), [P, None, None]])

    def test_few_calls(self):
        pairs = [(60, comb(60, "left"))] * 60
        self.assertEqual(with_few_calls(lambda: entries_told([], "left", pairs)), [])


if __name__ == "__main__":
    unittest.main()

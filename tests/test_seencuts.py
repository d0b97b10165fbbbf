import random
import unittest

from lumpplans.plainforms import prime_list
from lumpplans.plans import Plan
from lumpplans.pressing import shape
from lumpplans.seencuts import judge_seen_counter, seen_counter, seen_cuts
from lumpplans.shapes import comb
from tests import oracles
from tests.samples import (
    NO_TUPLES, P, Q, TWO, L, R, PRIME_SIX, TWO_L, TWO_TWO, check_new_list, drawn_plan, drawn_shape, drawn_table,
    with_few_calls,
)
from tests.test_readback import other_shape


def shapes_up_to(plan, most):
    return [shape(plan, n) for n in range(1, most + 1)]


def all_counters(shapes, b):
    """Return all counters for b of a list of shapes, by their texts."""
    return [value for value in oracles.counters(tuple(shapes[1:]), b) if value != ("size",)]


def looked(shapes, b):
    """Return whether b is a seen cut, looking at all that S9.5 names."""
    texts = [oracles.text_of(made) for made in shapes]
    above = {}
    for m, text in enumerate(texts, start=1):
        found = oracles.ranges(text)
        told = text
        for i, j in reversed(oracles.pairs_of(m, b)):
            if (i, j) not in found:
                return False
            start, end = found[(i, j)]
            if text[start:end] != texts[j - i - 1]:
                return False
            told = told[:start] + "o" + told[end:]
        if above.setdefault(len(oracles.pairs_of(m, b)), told) != told:
            return False
    return True


def lists(most=13):
    """Return lists of the shapes of drawn plans, of drawn shapes, and such with one or two shapes otherwise."""
    draw = random.Random(180)
    found = []
    for _ in range(24):
        found.append(shapes_up_to(drawn_plan(draw, 4), draw.randint(1, most)))
    for plan in (Plan((), (TWO,)), Plan((), (L,)), Plan((TWO, R), (TWO_TWO,)), Plan((), "left"), Plan((TWO,), "right"),
                 Plan((PRIME_SIX,), "left"), Plan((TWO_L,), (R,))):
        found.append(shapes_up_to(plan, most))
    for shapes in list(found):
        for many in (1, 2):
            changed = list(shapes)
            for _ in range(many):
                k = draw.randrange(len(changed))
                changed[k] = draw.choice([other_shape(draw, changed[k]), drawn_shape(draw, k + 1)])
            found.append(changed)
    for many in range(1, most):
        found.append([drawn_shape(draw, m) for m in range(1, many + 1)])
    return found


class SeenCutsTest(unittest.TestCase):
    def test_by_looking(self):
        several = 0
        for shapes in lists():
            expected = [b for b in range(2, len(shapes) + 1) if looked(shapes, b)]
            self.assertEqual(seen_cuts(shapes), expected)
            self.assertEqual(seen_cuts(tuple(shapes)), expected)
            several += len(expected) > 1
            for b in range(2, len(shapes) + 1):
                found = seen_counter(shapes, b)
                if b in expected:
                    self.assertIs(found, None)
                else:
                    self.assertIn(found, all_counters(shapes, b))
                    self.assertIs(type(found), tuple)
        self.assertGreater(several, 20)

    def test_few_shapes(self):
        self.assertEqual(seen_cuts([]), [])
        self.assertEqual(seen_cuts(()), [])
        self.assertEqual(seen_cuts([()]), [])
        self.assertEqual(seen_cuts([(), P]), [2])
        self.assertEqual(seen_cuts([(), P, Q]), [2, 3])
        self.assertEqual(seen_cuts([(), P, ((), P)]), [3])
        self.assertIs(seen_counter([(), P], 2), None)

    def test_all_shapes_themselves(self):
        """The number of the shapes is always a seen cut."""
        draw = random.Random(181)
        for most in (2, 3, 7, 20, 60):
            shapes = [drawn_shape(draw, m) for m in range(1, most + 1)]
            self.assertIn(most, seen_cuts(shapes))

    def test_cuts_of_plans(self):
        """Each cut of a plan is a seen cut; but a seen cut may be none of the plan."""
        draw = random.Random(182)
        for plan in [drawn_plan(draw, 4) for _ in range(12)] + [Plan((TWO_L,), (L, TWO))]:
            shapes = shapes_up_to(plan, 40)
            found = seen_cuts(shapes)
            width = 1
            for prime in prime_list(plan, 6):
                width *= len(prime) + 1
                if width <= 40:
                    self.assertIn(width, found)
        self.assertEqual(seen_cuts(shapes_up_to(Plan((), "left"), 5)), [4, 5])
        self.assertEqual(seen_cuts(shapes_up_to(Plan((), "left"), 6)), [5, 6])

    def test_sizes_that_are_no_multiples(self):
        # ("size",) does not count: 2 does not divide 7.
        shapes = shapes_up_to(Plan((), (TWO,)), 7)
        self.assertEqual(seen_cuts(shapes), [2, 4, 7])
        self.assertIs(judge_seen_counter(shapes, 2, ("size",)), False)
        self.assertIs(judge_seen_counter(shapes, 3, ("size",)), False)

    def test_kinds_of_counters(self):
        # A stretch that is no lump, one with another part, and unlike shapes above.
        self.assertIs(judge_seen_counter([(), P, ((), P)], 2, ("lump", 3, 0)), True)
        shapes = [(), P, Q, (((), P), ())]
        self.assertEqual(all_counters(shapes, 3), [("shape", 4, 0)])
        self.assertEqual(seen_counter(shapes, 3), ("shape", 4, 0))
        shapes = [()] + list(PRIME_SIX)
        self.assertEqual(all_counters(shapes, 2), [("above", 5, 6)])
        self.assertEqual(seen_counter(shapes, 2), ("above", 5, 6))

    def test_sixty_shapes(self):
        draw = random.Random(183)
        table = drawn_table(draw, 60)
        for plan in (Plan((), (TWO,)), Plan((L, R), "left"), Plan((table,), "right"), Plan((), "left")):
            shapes = shapes_up_to(plan, 60)
            found = with_few_calls(lambda: seen_cuts(shapes))
            self.assertIn(60, found)
            for b in (2, 3, 7, 30, 59):
                told = with_few_calls(lambda: seen_counter(shapes, b))
                self.assertIs(told is None, b in found)
                self.assertIs(judge_seen_counter(shapes, b, told), b not in found)
        late = shapes_up_to(Plan((), (TWO,)), 59) + [comb(60, "left")]
        self.assertEqual(seen_cuts(late), [60])

    def test_lists(self):
        shapes = [(), P, Q]
        check_new_list(self, lambda: seen_cuts(shapes))
        for b in (2, 3):
            seen_counter(shapes, b)
            judge_seen_counter(shapes, b, ("lump", 3, 0))
        self.assertEqual(shapes, [(), P, Q])


class JudgeTest(unittest.TestCase):
    def test_all_counters(self):
        """Of all tuples of the three kinds, also with numbers out of range, the counters alone are right."""
        right = 0
        for shapes in lists(8):
            most = len(shapes)
            for b in range(2, most + 1):
                expected = all_counters(shapes, b)
                right += len(expected)
                for kind in ("lump", "shape", "above", "size", "lumps"):
                    for m in range(-1, most + 3):
                        for last in range(-1, most + 3):
                            value = (kind, m, last)
                            self.assertIs(judge_seen_counter(shapes, b, value), value in expected, (b, value))
        self.assertGreater(right, 800)

    def test_anything(self):
        shapes = [()] + list(PRIME_SIX)
        self.assertIs(judge_seen_counter(shapes, 2, ("above", 5, 6)), True)
        self.assertIs(judge_seen_counter(shapes, 3, ("lump", 4, 0)), True)
        for value in NO_TUPLES + (
                (), ("size",), ("above",), ("above", 5), ("above", 5, 6, 0), ["above", 5, 6], ("above", 6, 5),
                ("above", 5, 5), ("above", "5", 6), ("above", 5, None), ("above", 5, 10 ** 40), ("above", -5, 6),
                ("above", [5], 6), (5, 6, "above"), (("above",), 5, 6), ([], {}, ()), ("lump", 5, 6)):
            self.assertIs(judge_seen_counter(shapes, 2, value), False, repr(value))
        for value in (("lump", 4, False), ("lump", True, 0), ("shape", 4, 0), ("lump", 4, -1), ("lump", 4, 2)):
            self.assertIs(judge_seen_counter(shapes, 3, value), False, repr(value))
        shapes = [(), P, Q, (Q, ()), (P, Q)]
        self.assertIs(judge_seen_counter(shapes, 2, ("lump", 4, 1)), True)
        self.assertIs(judge_seen_counter(shapes, 2, ("lump", 4, True)), False)
        self.assertIs(judge_seen_counter(shapes, 5, ("lump", 4, 1)), False)


if __name__ == "__main__":
    unittest.main()

import random
import unittest

from lumpplans.errors import TooGreat
from lumpplans.shapecounts import count_shapes, next_shape, shape_number, shape_of
from lumpplans.shapes import comb, is_shape, size_of
from tests.samples import P, Q, drawn_shape, shapes_of, with_few_calls

COUNTS = (1, 1, 2, 5, 14, 42, 132)


def place_in_order(made):
    """Return a key by which shapes of one size are ordered."""
    if made == ():
        return ()
    return (size_of(made[0]), place_in_order(made[0]), place_in_order(made[1]))


def listing(m):
    """Return all shapes of size m in order."""
    return sorted(shapes_of(m), key=place_in_order)


class CountTest(unittest.TestCase):
    def test_first_counts(self):
        self.assertEqual(tuple(count_shapes(m) for m in range(1, 8)), COUNTS)

    def test_by_listing(self):
        for m in range(1, 11):
            self.assertEqual(count_shapes(m), len(shapes_of(m)))

    def test_great_sizes(self):
        made = 1
        for m in range(2, 61):
            made = made * (4 * m - 6) // m
            self.assertEqual(count_shapes(m), made)


class NumberTest(unittest.TestCase):
    def test_examples(self):
        self.assertEqual([shape_of(3, 0), shape_of(3, 1)], [((), P), Q])
        self.assertEqual(shape_number((P, P)), 2)

    def test_all_of_small_sizes(self):
        for m in range(1, 8):
            shapes = listing(m)
            self.assertEqual([shape_of(m, number) for number in range(len(shapes))], shapes)
            self.assertEqual([shape_number(made) for made in shapes], list(range(len(shapes))))
            self.assertEqual([next_shape(made) for made in shapes], shapes[1:] + [None])

    def test_first_and_last(self):
        for m in range(1, 61):
            last = count_shapes(m) - 1
            self.assertEqual(shape_of(m, 0), comb(m, "right"))
            self.assertEqual(shape_of(m, last), comb(m, "left"))
            self.assertEqual(shape_number(comb(m, "right")), 0)
            self.assertEqual(shape_number(comb(m, "left")), last)
            self.assertIs(next_shape(comb(m, "left")), None)

    def test_too_great(self):
        for m in range(1, 61):
            for number in (count_shapes(m), count_shapes(m) + 1, 10 ** 60 - 1):
                with self.assertRaises(TooGreat):
                    shape_of(m, number)

    def test_drawn_shapes(self):
        draw = random.Random(80)
        for m in (1, 2, 8, 13, 30, 59, 60):
            for _ in range(5):
                made = drawn_shape(draw, m)
                number = shape_number(made)
                self.assertEqual(shape_of(m, number), made)
                following = next_shape(made)
                if number + 1 < count_shapes(m):
                    self.assertEqual(shape_number(following), number + 1)
                    self.assertLess(place_in_order(made), place_in_order(following))
            for _ in range(5):
                number = draw.randrange(count_shapes(m))
                made = shape_of(m, number)
                self.assertTrue(is_shape(made) and size_of(made) == m)
                self.assertEqual(shape_number(made), number)

    def test_few_calls(self):
        for side in ("left", "right"):
            with_few_calls(lambda: shape_number(comb(60, side)))
            with_few_calls(lambda: next_shape(comb(60, side)))
        with_few_calls(lambda: shape_of(60, count_shapes(60) - 1))
        with_few_calls(lambda: shape_of(60, 0))


if __name__ == "__main__":
    unittest.main()

import random
import unittest

from lumpplans.errors import BadShape
from lumpplans.shapes import check_shape, comb, is_shape, part_at, paths_of, shape_height, size_of
from tests.oracles import ranges, text_of
from tests.samples import (
    NO_TUPLES, P, Q, check_new_list, drawn_shape, nested, shapes_of, with_few_calls,
)

WRONG = NO_TUPLES + (((),), ((), (), ()), (1,), ("a", "b", "c"))


def wrong_paths(value):
    """Return the paths of all parts that are wrong by themselves."""
    found = []
    waiting = [((), value)]
    while waiting:
        path, part = waiting.pop()
        if not isinstance(part, tuple) or len(part) not in (0, 2):
            found.append(path)
        else:
            waiting.extend((path + (step,), member) for step, member in enumerate(part))
    return found


def exchanged(shape, path, value):
    """Return a shape with the part at a path exchanged for a value."""
    if path == ():
        return value
    parts = list(shape)
    parts[path[0]] = exchanged(shape[path[0]], path[1:], value)
    return tuple(parts)


def paths_of_any(value):
    """Return the paths to the parts of a value, as far as pairs lead."""
    found = [()]
    if isinstance(value, tuple) and len(value) == 2:
        for step, part in enumerate(value):
            found.extend((step,) + path for path in paths_of_any(part))
    return found


def text_depths(text):
    """Return the depth of each place of a text of a shape."""
    return [text[:at].count("(") - text[:at].count(")") for at, sign in enumerate(text) if sign == "o"]


def path_in(text, start, end):
    """Return the path to the part of a text that stands from start to end."""
    holders = [span for span in ranges(text).values() if span[0] <= start and end <= span[1]]
    holders.sort(key=lambda span: span[0] - span[1])
    return tuple(0 if inner[0] == outer[0] + 1 else 1 for outer, inner in zip(holders, holders[1:]))


class ShapeFormTest(unittest.TestCase):
    def check_wrong(self, value, path):
        self.assertIs(is_shape(value), False)
        with self.assertRaises(BadShape) as caught:
            check_shape(value)
        self.assertEqual(caught.exception.path, path)

    def test_shapes(self):
        for size in range(1, 7):
            for shape in shapes_of(size):
                self.assertIs(is_shape(shape), True)
                self.assertIs(check_shape(shape), None)

    def test_no_shapes(self):
        for value in WRONG:
            self.check_wrong(value, ())
            self.check_wrong((value, ()), (0,))
            self.check_wrong(((), value), (1,))
            self.check_wrong((value, value), (0,))
            self.check_wrong((P, (Q, value)), (1, 1))
            self.check_wrong((((), value), value), (0, 1))

    def test_wrong_deep_in_a_comb(self):
        for value in WRONG:
            for step in (0, 1):
                made = nested(59, value, step)
                self.check_wrong(made, (step,) * 59)
                self.check_wrong(nested(68, made, 1 - step), (1 - step,) * 68 + (step,) * 59)

    def test_first_of_several(self):
        draw = random.Random(1)
        for _ in range(300):
            value = drawn_shape(draw, draw.randint(1, 30))
            for _ in range(draw.randint(1, 4)):
                path = draw.choice(paths_of_any(value))
                value = exchanged(value, path, draw.choice(WRONG))
            self.check_wrong(value, min(wrong_paths(value)))

    def test_many_members(self):
        self.check_wrong(((),) * 20000, ())
        self.check_wrong(((), [()] * 20000), (1,))
        full = ()
        for _ in range(13):
            full = (full, full)
        self.assertIs(is_shape(full), True)

    def test_few_calls(self):
        value = nested(70, 5, 0)
        self.assertIs(with_few_calls(lambda: is_shape(value)), False)


class MeasureTest(unittest.TestCase):
    def test_examples(self):
        self.assertEqual((size_of(()), shape_height(())), (1, 0))
        self.assertEqual((size_of(P), shape_height(P)), (2, 1))
        self.assertEqual((size_of(Q), shape_height(Q)), (3, 2))
        self.assertEqual((size_of((Q, Q)), shape_height((Q, Q))), (6, 3))
        self.assertEqual((size_of((P, Q)), shape_height((P, Q))), (5, 3))

    def test_by_texts(self):
        draw = random.Random(2)
        for size in range(1, 61):
            shape = drawn_shape(draw, size)
            depths = text_depths(text_of(shape))
            self.assertEqual(size_of(shape), size)
            self.assertEqual(shape_height(shape), max(depths))
            self.assertEqual([len(path) for path in paths_of(shape)], depths)

    def test_combs(self):
        self.assertEqual(comb(1, "left"), ())
        self.assertEqual(comb(1, "right"), ())
        self.assertEqual(comb(3, "left"), (P, ()))
        self.assertEqual(comb(3, "right"), ((), P))
        for n in range(2, 61):
            self.assertEqual(comb(n, "left"), (comb(n - 1, "left"), ()))
            self.assertEqual(comb(n, "right"), ((), comb(n - 1, "right")))
            for side in ("left", "right"):
                made = comb(n, side)
                self.assertIs(is_shape(made), True)
                self.assertEqual((size_of(made), shape_height(made)), (n, n - 1))


class PathTest(unittest.TestCase):
    def test_example(self):
        self.assertEqual(part_at(Q, (0, 1)), ())
        self.assertIs(part_at(Q, (1, 0)), None)
        self.assertEqual(part_at(Q, ()), Q)
        self.assertEqual(part_at(Q, (0,)), P)
        self.assertEqual(part_at(Q, (1,)), ())
        self.assertEqual(paths_of(Q), [(0, 0), (0, 1), (1,)])
        self.assertEqual(paths_of(()), [()])

    def test_parts_by_texts(self):
        draw = random.Random(3)
        for size in (1, 2, 3, 10, 30, 60):
            shape = drawn_shape(draw, size)
            text = text_of(shape)
            for start, end in ranges(text).values():
                path = path_in(text, start, end)
                self.assertEqual(text_of(part_at(shape, path)), text[start:end], path)

    def test_paths_to_lumps(self):
        draw = random.Random(4)
        for size in (1, 2, 5, 20, 60):
            shape = drawn_shape(draw, size)
            paths = paths_of(shape)
            self.assertEqual(len(paths), size)
            self.assertEqual(paths, sorted(paths))
            for path in paths:
                self.assertIs(type(path), tuple)
                self.assertEqual(part_at(shape, path), ())
                self.assertIs(part_at(shape, path + (0,)), None)
                self.assertIs(part_at(shape, path + (1, 0)), None)

    def test_deep_combs(self):
        made = comb(60, "left")
        self.assertEqual(part_at(made, (0,) * 59), ())
        self.assertEqual(part_at(made, (0,) * 58), P)
        self.assertIs(part_at(made, (0,) * 60), None)
        self.assertEqual(paths_of(made)[-1], (1,))
        self.assertEqual(paths_of(made)[0], (0,) * 59)
        self.assertIs(part_at(made, (0,) * 20000), None)
        self.assertEqual(with_few_calls(lambda: paths_of(made))[1], (0,) * 58 + (1,))

    def test_what_is_no_path(self):
        for path in NO_TUPLES:
            self.assertIs(part_at(Q, path), None, repr(path))
            self.assertIs(part_at((), path), None, repr(path))
        for step in (2, -1, -2, 10 ** 40, True, False, None, "0", "", (), (0,), [0], {}):
            for shape in (Q, (Q, Q), ()):
                self.assertIs(part_at(shape, (step,)), None, repr(step))
                self.assertIs(part_at(shape, (0, step)), None, repr(step))
                self.assertIs(part_at(shape, (1, 1, step, 0)), None, repr(step))

    def test_lists_are_no_paths(self):
        self.assertIs(part_at(Q, [0, 1]), None)
        self.assertIs(part_at(Q, []), None)

    def test_new_lists(self):
        check_new_list(self, lambda: paths_of(Q))


if __name__ == "__main__":
    unittest.main()

"""Values that several tests use."""

import itertools
import sys

from lumpplans.plans import Plan

P = ((), ())
Q = (P, ())
TWO = (P,)
L = (P, (P, ()))
R = (P, ((), P))
TWO_TWO = (P, (P, ()), (P, P))
TWO_L = (P, (P, ()), (P, P), ((P, P), ()), ((P, P), P))
PRIME_SIX = (P, (P, ()), (P, P), ((P, P), ()), (P, (P, P)))

NO_TUPLES = (
    None, True, False, 0, 1, 2, -1, 10 ** 40, "", "o", "()", "left", [], [()], [(), ()], [P, ()],
    {}, {"a": ()}, {0: (), 1: ()}, Plan((), "left"),
)


def shapes_of(size):
    """Return all shapes of a size."""
    if size == 1:
        return [()]
    return [
        (left, right)
        for k in range(1, size) for left in shapes_of(k) for right in shapes_of(size - k)
    ]


def tables_of(size):
    """Return all tables of a size, as an iterator."""
    return itertools.product(*[shapes_of(m) for m in range(2, size + 1)])


def drawn_shape(draw, size):
    """Return a shape of a size that a random.Random draws."""
    if size == 1:
        return ()
    cut = draw.randint(1, size - 1)
    return (drawn_shape(draw, cut), drawn_shape(draw, size - cut))


def drawn_table(draw, size):
    """Return a table of a size that a random.Random draws."""
    return tuple(drawn_shape(draw, m) for m in range(2, size + 1))


def drawn_plan(draw, sizes=5):
    """Return a plan that a random.Random draws, with up to three tables and each kind of end."""
    def tables(least):
        return tuple(drawn_table(draw, draw.randint(2, sizes)) for _ in range(draw.randint(least, 3)))
    return Plan(tables(0), draw.choice(["left", "right", tables(1)]))


def nested(depth, inner, step):
    """Return a value in which inner is nested so deep, on the left (0) or on the right (1)."""
    for _ in range(depth):
        inner = (inner, ()) if step == 0 else ((), inner)
    return inner


def with_few_calls(call):
    """Return what a call returns if it may go only 300 calls deep."""
    depth = 0
    frame = sys._getframe()
    while frame is not None:
        depth += 1
        frame = frame.f_back
    limit = sys.getrecursionlimit()
    sys.setrecursionlimit(depth + 300)
    try:
        return call()
    finally:
        sys.setrecursionlimit(limit)


def check_new_list(test, call):
    """Check that a repeated call returns an equal list that is a new one."""
    first = call()
    again = call()
    test.assertIs(type(first), list)
    test.assertEqual(first, again)
    test.assertIsNot(first, again)
    first.append("changed")
    test.assertEqual(call(), again)

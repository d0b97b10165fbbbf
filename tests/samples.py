"""Values that several tests use."""

import itertools
import sys

from lumpplans.gluing import glue
from lumpplans.plans import Plan

P = ((), ())
Q = (P, ())
TWO = (P,)
L = (P, (P, ()))
R = (P, ((), P))
TWO_TWO = (P, (P, ()), (P, P))
TWO_L = (P, (P, ()), (P, P), ((P, P), ()), ((P, P), P))
PRIME_SIX = (P, (P, ()), (P, P), ((P, P), ()), (P, (P, P)))

NO_TUPLES = (
    None, True, False, 0, 1, 2, -1, 10 ** 40, "", "o", "()", "left", [], [()], [(), ()], [P, ()],
    {}, {"a": ()}, {0: (), 1: ()}, Plan((), "left"),
)


def shapes_of(size):
    """Return all shapes of a size."""
    if size == 1:
        return [()]
    return [
        (left, right)
        for k in range(1, size) for left in shapes_of(k) for right in shapes_of(size - k)
    ]


def tables_of(size):
    """Return all tables of a size, as an iterator."""
    return itertools.product(*[shapes_of(m) for m in range(2, size + 1)])


def drawn_shape(draw, size):
    """Return a shape of a size that a random.Random draws."""
    if size == 1:
        return ()
    cut = draw.randint(1, size - 1)
    return (drawn_shape(draw, cut), drawn_shape(draw, size - cut))


def drawn_table(draw, size):
    """Return a table of a size that a random.Random draws."""
    return tuple(drawn_shape(draw, m) for m in range(2, size + 1))


def drawn_plan(draw, sizes=5):
    """Return a plan that a random.Random draws, with up to three tables and each kind of end."""
    def tables(least):
        return tuple(drawn_table(draw, draw.randint(2, sizes)) for _ in range(draw.randint(least, 3)))
    return Plan(tables(0), draw.choice(["left", "right", tables(1)]))


def nested(depth, inner, step):
    """Return a value in which inner is nested so deep, on the left (0) or on the right (1)."""
    for _ in range(depth):
        inner = (inner, ()) if step == 0 else ((), inner)
    return inner


def with_few_calls(call):
    """Return what a call returns if it may go only 300 calls deep."""
    depth = 0
    frame = sys._getframe()
    while frame is not None:
        depth += 1
        frame = frame.f_back
    limit = sys.getrecursionlimit()
    sys.setrecursionlimit(depth + 300)
    try:
        return call()
    finally:
        sys.setrecursionlimit(limit)


def check_new_list(test, call):
    """Check that a repeated call returns an equal list that is a new one."""
    first = call()
    again = call()
    test.assertIs(type(first), list)
    test.assertEqual(first, again)
    test.assertIsNot(first, again)
    first.append("changed")
    test.assertEqual(call(), again)


def exchanged(draw, table):
    """Return a table of size 3 or more with one entry exchanged for a drawn one."""
    k = draw.randrange(1, len(table))
    return table[:k] + (drawn_shape(draw, k + 2),) + table[k + 1:]


def near_plans(draw, plan):
    """Return plans that differ from a plan in an entry, a table or the end, or are alike to it."""
    tables = plan.tables()
    end = plan.end()
    found = [Plan(tables, "left"), Plan(tables, "right"), Plan(tables[:-1], end)]
    for k, table in enumerate(tables):
        if len(table) > 1:
            found.append(Plan(tables[:k] + (exchanged(draw, table),) + tables[k + 1:], end))
    if isinstance(end, tuple):
        found.append(Plan(tables + end[:1], end))
        found.append(Plan(tables, end[1:] + end[:1]))
        found.append(Plan(tables + end[:1], end[1:] + end[:1]))
        for k, table in enumerate(end):
            if len(table) > 1:
                found.append(Plan(tables, end[:k] + (exchanged(draw, table),) + end[k + 1:]))
    return found


def glued_in_pairs(draw, tables):
    """Return tables of which some neighbours are glued, if they are not too great."""
    found = []
    for table in tables:
        if found and (len(found[-1]) + 1) * (len(table) + 1) <= 60 and draw.random() < 0.5:
            found[-1] = glue(found[-1], table)
        else:
            found.append(table)
    return tuple(found)


def told_otherwise(draw, plan):
    """Return plans that are alike to a plan, told with other tables."""
    tables = plan.tables()
    end = plan.end()
    found = [Plan(glued_in_pairs(draw, tables), end) for _ in range(2)]
    if isinstance(end, tuple):
        found.append(Plan(tables, end + end))
        found.append(Plan(tables + end[:1], end[1:] + end[:1]))
        found.append(Plan(tables + end, end))
        found.append(Plan(glued_in_pairs(draw, tables + end), glued_in_pairs(draw, end + end)))
        found.append(Plan(glued_in_pairs(draw, tables + end[:1]), glued_in_pairs(draw, end[1:] + end + end[:1])))
    return found


def depths_of(text):
    """Return the list of the depths of the places of the text of a shape."""
    found = []
    depth = 0
    for sign in text:
        if sign == "o":
            found.append(depth)
        depth += {"(": 1, ")": -1}.get(sign, 0)
    return found

"""Rows that grow, told by the texts of their shapes."""

import random

from lumpplans.plans import Plan
from lumpplans.shapes import comb
from tests import oracles
from tests.samples import P, TWO, L, R, TWO_TWO, drawn_plan, drawn_shape, drawn_table
from tests.test_pressing import EXAMPLE

# The tables of the examples.
LATE = (P, (P, ()), (((), P), ()))
FOUR = (P, ((), P), (P, P))
AGAIN = (P, (P, ()), ((), (P, ())))


def sudden_table(size):
    """Return a table of right combs but for its last entry, so that its lumps last only when it is full."""
    return tuple(comb(m, "right") for m in range(2, size)) + (comb(size, "left"),)


def last_lump_pressed(shape):
    """Return a shape with its last lump exchanged for two that are pressed."""
    if shape == ():
        return P
    return (shape[0], last_lump_pressed(shape[1]))


def steady_table(draw, size):
    """Return a drawn table of which many lumps of an entry are lumps of the next ones, too."""
    entries = [P]
    for m in range(3, size + 1):
        before = entries[-1]
        entries.append(draw.choice([
            (before, ()), (before, ()), last_lump_pressed(before), last_lump_pressed(before), ((), before),
            drawn_shape(draw, m)]))
    return tuple(entries)


def steady_plan(draw):
    """Return a drawn plan with such tables."""
    tables = [steady_table(draw, draw.randint(2, 7)) for _ in range(draw.randint(1, 3))]
    return Plan(tables[1:], draw.choice(["left", "right", tuple(tables[:1])]))


def growing_plans(many=16):
    """Return drawn plans of small tables with each kind of end, and those of the examples."""
    draw = random.Random(110)
    found = []
    for _ in range(many // 2):
        found += [drawn_plan(draw, 4), steady_plan(draw)]
    return found + [
        Plan((), "left"), Plan((), "right"), Plan((), (TWO,)), Plan((), (L,)), Plan((), (R,)), EXAMPLE,
        Plan((TWO,), "right"), Plan((LATE,), "left"), Plan((), (FOUR,)), Plan((), (AGAIN,)), Plan((R, TWO), "left"),
        Plan((drawn_table(draw, 7),), "right"), Plan((LATE, L), (TWO_TWO,)), Plan((sudden_table(5),), (L,)),
    ]


def parts_at(plan, n):
    """Return the dict of the lumps of a plan at n with the texts of their parts."""
    text = oracles.plan_shape(plan, n)
    return {lump: text[start:end] for lump, (start, end) in oracles.ranges(text).items()}


class Growth:
    """The lumps of a plan, with the texts of their parts, at all numbers up to where nothing changes.

    A row of n lumps changes nothing any more, of what it had, when all stretches that
    it had are full: no later than with n lumps and one stretch of each stage more.
    """

    def __init__(self, plan, most):
        self.plan = plan
        self.most = most
        sizes = [len(table) + 1 for table in plan.tables()]
        if not isinstance(plan.end(), str):
            sizes += [len(table) + 1 for table in plan.end()] * most
        width = 1
        limit = most
        for size in sizes:
            if width > most:
                break
            limit = max(limit, most + width * size)
            width *= size
        self.parts = [None] + [parts_at(plan, n) for n in range(1, limit + 2)]

    def breaking(self, n, lump):
        """Return the first number behind n at which a lump is none or has another part, or None."""
        part = self.parts[n][lump]
        for later in range(n + 1, len(self.parts)):
            if self.parts[later].get(lump) != part:
                return later
        return None

    def lasting(self, n):
        """Return the list of the lasting lumps at n, in order."""
        found = [lump for lump in self.parts[n] if self.breaking(n, lump) is None]
        return sorted(found, key=lambda lump: (lump[0], -lump[1]))

    def store(self, n):
        """Return the list of the lasting lumps at n that are within no other one."""
        found = self.lasting(n)
        return [
            (i, j) for i, j in found
            if not any(x <= i and j <= y and (x, y) != (i, j) for x, y in found)]

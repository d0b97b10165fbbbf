"""Rules, and what lumps are worth by them."""

from lumpplans.lumps import all_lumps
from lumpplans.papers import beginning_paper, thing_paper
from lumpplans.words import is_number

GREATEST_MODULUS = 1000000


def is_rule(value):
    """Return whether value, which may be anything, is a rule."""
    if not isinstance(value, tuple) or len(value) != 4:
        return False
    if not all([is_number(member) for member in value]):
        return False
    a, b, c, m = value
    return m <= GREATEST_MODULUS and max(a, b, c) < m


def pressed(rule, x, y):
    """Return what a lump is worth of which the parts are worth x and y."""
    a, b, c, m = rule
    return (a * x + b * y + c) % m


def _worth_from(rule, shape, things, place):
    """Return what a shape is worth whose first place is this one, and the place behind it."""
    if shape == ():
        return things[place], place + 1
    x, middle = _worth_from(rule, shape[0], things, place)
    y, end = _worth_from(rule, shape[1], things, middle)
    return pressed(rule, x, y), end


def shape_worth(rule, shape, things):
    """Return the worth of a shape with a list of things, by their places."""
    worth, _ = _worth_from(rule, shape, things, 0)
    return worth


def _worths(rule, lumps, known):
    """Return the list of the pairs of some lumps and their worths, in their order.

    The lumps are in order, and the worths of those of which they have no parts are known.
    """
    found = []
    # Gone through from behind, the parts of a lump have just been told, the left one last.
    untaken = []
    for lump in reversed(lumps):
        if lump in known:
            worth = known[lump]
        else:
            x = untaken.pop()
            worth = pressed(rule, x, untaken.pop())
        untaken.append(worth)
        found.append((lump, worth))
    return found[::-1]


def lump_worths(rule, plan, things):
    """Return the list of the pairs (lump, worth) of all lumps of a row of things, in order."""
    known = {(k, k + 1): thing for k, thing in enumerate(things)}
    return _worths(rule, all_lumps(plan, len(things)), known)


def plan_worth(rule, plan, things):
    """Return the worth of the whole row of a list of things."""
    _, worth = lump_worths(rule, plan, things)[0]
    return worth


def _factors_below(rule, shape, factor):
    """Return the factors of the places of a shape whose path has this factor."""
    if shape == ():
        return [factor]
    a, b, _, m = rule
    left = _factors_below(rule, shape[0], factor * a % m)
    return left + _factors_below(rule, shape[1], factor * b % m)


def factors(rule, shape):
    """Return the list of the factors of the places of a shape."""
    return _factors_below(rule, shape, 1 % rule[3])


def things_apart(rule, one, other):
    """Return things with which two shapes of one size are worth unlike numbers, or None."""
    one_factors = factors(rule, one)
    other_factors = factors(rule, other)
    things = [0] * len(one_factors)
    if shape_worth(rule, one, things) != shape_worth(rule, other, things):
        return things
    for k, factor in enumerate(one_factors):
        if factor != other_factors[k]:
            things[k] = 1
            return things
    return None


def is_free(rule):
    """Return whether a rule is free of brackets."""
    return bracket_paper(rule) is None


def _tells_brackets(rule, x, y, z):
    """Return whether the two shapes of size 3 are worth unlike numbers with these things."""
    return pressed(rule, pressed(rule, x, y), z) != pressed(rule, x, pressed(rule, y, z))


def bracket_paper(rule):
    """Return a bracket paper of a rule, or None if it is free of brackets."""
    # With m of 1 there is no thing 1, but then nothing is worth unlike numbers.
    for x, y, z in ((0, 0, 0), (1, 0, 0), (0, 0, 1)):
        if _tells_brackets(rule, x, y, z):
            return (x, y, z)
    return None


def judge_bracket_paper(rule, value):
    """Return whether value, which may be anything, is a bracket paper of a rule."""
    if not isinstance(value, tuple) or len(value) != 3:
        return False
    if not all([is_number(thing) and thing < rule[3] for thing in value]):
        return False
    x, y, z = value
    return _tells_brackets(rule, x, y, z)


def carried(rule, plan, n, i, thing, worths):
    """Return the worth of the whole at n with a thing at the place i.

    It is told by the worths of the lumps of the thing paper for i.
    """
    whole = thing
    for (first, _), worth in zip(thing_paper(plan, n, i), worths):
        if first > i:
            whole = pressed(rule, whole, worth)
        else:
            whole = pressed(rule, worth, whole)
    return whole


def _lumps_down_to(plan, n, known):
    """Return the lumps of a plan at n, in order, without those within lumps that are known."""
    found = []
    covered = 0
    for lump in all_lumps(plan, n):
        if lump[0] >= covered:
            found.append(lump)
            if lump in known:
                covered = lump[1]
    return found


def carried_on(rule, plan, n, more, worths):
    """Return the pair of the worths of the whole at n and at more, n less than more.

    They are told by the worths of the lumps of the least beginning paper.
    """
    known = {lump: worth for lump, worth in zip(beginning_paper(plan, n, more), worths)}
    wholes = []
    for many in (n, more):
        _, worth = _worths(rule, _lumps_down_to(plan, many, known), known)[0]
        wholes.append(worth)
    return (wholes[0], wholes[1])

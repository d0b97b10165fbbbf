"""Papers: the lumps by whose worths the worth of the whole is told, when a row changes or grows."""

from lumpplans.digits import LONGEST_PATH, depth, is_lump
from lumpplans.errors import TooGreat, TooMany
from lumpplans.gluing import lump_part, lump_parts
from lumpplans.lasting import MOST_LISTED, placed
from lumpplans.pressing import rounded_up, stages_used, stretch_entry
from lumpplans.shapes import size_of
from lumpplans.stores import end_store, share_out
from lumpplans.tables import entry, table_size
from lumpplans.words import is_integer


def _beside_in_entry(shape, place):
    """Return the lumps of an entry beside the path to a place, from the least one on."""
    found = []
    first = 0
    while shape != ():
        left, right = shape
        middle = first + size_of(left)
        if place < middle:
            found.append((middle, middle + size_of(right)))
            shape = left
        else:
            found.append((first, middle))
            first = middle
            shape = right
    return found[::-1]


def _beside_in_end(end, many, place):
    """Return the lumps beside the path to a place of many lumps that an end presses."""
    if end == "left":
        found = [(0, place)] if place > 0 else []
        return found + [(k, k + 1) for k in range(place + 1, many)]
    found = [(place + 1, many)] if place + 1 < many else []
    return found + [(k, k + 1) for k in range(place - 1, -1, -1)]


def _beside(plan, n, i):
    """Return the lumps beside the path to the place i of a plan at n, from the least one on."""
    used, left, width = stages_used(plan, n)
    found = []
    for stage in used:
        table, many, _ = stage
        k = i // table_size(table)
        beside = _beside_in_entry(stretch_entry(table, many, k), i - k * table_size(table))
        found.extend(placed(stage, k, beside, n))
        i = k
    for x, y in _beside_in_end(plan.end(), left, i):
        found.append((x * width, min(y * width, n)))
    return found


def thing_paper(plan, n, i):
    """Return the thing paper for the place i, which may be anything, a list of lumps."""
    if depth(plan, n, i) > LONGEST_PATH:
        raise TooGreat()
    return _beside(plan, n, i)


def _are_pairs(value):
    """Return whether value, which may be anything, is a list or a tuple of pairs of integers."""
    if not isinstance(value, (list, tuple)):
        return False
    for pair in value:
        if not isinstance(pair, tuple) or len(pair) != 2:
            return False
        if not is_integer(pair[0]) or not is_integer(pair[1]):
            return False
    return True


def judge_thing_paper(plan, n, i, value):
    """Return whether value, which may be anything, is the thing paper for the place i."""
    # A paper is only made if it is as long as what is judged, as it may be of any length.
    many = depth(plan, n, i)
    if not _are_pairs(value) or len(value) != many:
        return False
    return list(value) == _beside(plan, n, i)


def _behind_in_end(plan, n, more):
    """Return the greatest lumps behind n of those that the end of a plan presses at more."""
    _, left, width = stages_used(plan, more)
    first = rounded_up(n, width)
    if plan.end() == "right":
        return [(first * width, more)] if first < left else []
    if left - first > MOST_LISTED:
        raise TooMany()
    return [(k * width, min((k + 1) * width, more)) for k in range(first, left)]


def _stretch_sides(stage, n, more):
    """Return the paper of the stretch of a stage at more that has places on both sides of n.

    It is told as two lists, what is ahead of n and what is behind it. A lump that comes to
    the stage and has places on both sides is left out.
    """
    table, many, width = stage
    size = table_size(table)
    k = n // (size * width)
    full = n // width - k * size
    first = rounded_up(n, width) - k * size
    now = stretch_entry(table, many, k)
    parts = lump_parts(now)
    parts_then = lump_parts(entry(table, first))
    ahead = [(i, j) for i, j in parts if j <= full and parts_then.get((i, j)) == parts[(i, j)]]
    behind = [(i, j) for i, j in parts if i >= first]
    return (
        placed(stage, k, share_out(ahead, 0, full), more),
        placed(stage, k, share_out(behind, first, size_of(now)), more))


def beginning_paper(plan, n, more):
    """Return the least beginning paper for n and more, n less than more, a list of pairs."""
    used, _, width = stages_used(plan, more)
    ahead = end_store(plan.end(), n // width, width)
    behind = _behind_in_end(plan, n, more)
    for stage in reversed(used):
        # Only one lump behind the stage can have places on both sides of n.
        if n % width == 0:
            break
        stage_ahead, stage_behind = _stretch_sides(stage, n, more)
        ahead.extend(stage_ahead)
        behind = stage_behind + behind
        _, _, width = stage
    if len(ahead) + len(behind) > MOST_LISTED:
        raise TooMany()
    return ahead + behind


def _has_same_part(plan, n, more, i, j):
    """Return whether a lump (i, j) at more, without places behind n, is one at n with the same part."""
    used, _, _ = stages_used(plan, more)
    many_then = n
    for table, many, _ in used:
        size = table_size(table)
        k = i // size
        if k == (j - 1) // size:
            now = stretch_entry(table, many, k)
            then = stretch_entry(table, many_then, k)
            return lump_part(now, i - k * size, j - k * size) == lump_part(then, i - k * size, j - k * size)
        i = k
        j = rounded_up(j, size)
        many_then = rounded_up(many_then, size)
    # The lump has not the last place at more, so the end is "left".
    return True


def _share_fault(pairs, more):
    """Return the number of the first of some pairs that does not go on sharing out the places, or None."""
    at = 0
    for k, (i, j) in enumerate(pairs):
        if i != at or j <= i or j > more:
            return k
        at = j
    return None if at == more else len(pairs)


def _is_of_paper(plan, n, more, i, j):
    """Return whether the pair (i, j) may be one of a beginning paper."""
    if i < n < j or not is_lump(plan, more, i, j):
        return False
    return i >= n or _has_same_part(plan, n, more, i, j)


def judge_beginning_paper(plan, n, more, value):
    """Return None if value, which may be anything, is a beginning paper, or else what is wrong."""
    if not _are_pairs(value):
        return ("form",)
    k = _share_fault(value, more)
    if k is not None:
        return ("share", k)
    for k, (i, j) in enumerate(value):
        if not _is_of_paper(plan, n, more, i, j):
            return ("lump", k)
    return None

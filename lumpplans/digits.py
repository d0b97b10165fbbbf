"""Lumps of plans at numbers of any length, told by digits, without pressing a row."""

from lumpplans.errors import BadPlace, TooGreat
from lumpplans.gluing import is_shape_lump
from lumpplans.pressing import rounded_up, stages_used, stretch_entry
from lumpplans.shapes import is_path, size_of
from lumpplans.tables import table_size
from lumpplans.words import is_number

LONGEST_PATH = 400


def _end_presses(end, many, i, j):
    """Return whether (i, j), of two lumps or more, is a lump of many that an end presses."""
    if end == "left":
        return i == 0
    return j == many


def is_lump(plan, n, i, j):
    """Return whether (i, j) is a lump of a plan at n; i and j may be anything."""
    if not is_number(i) or not is_number(j) or not i < j <= n:
        return False
    if j - i == 1:
        return True
    used, left, _ = stages_used(plan, n)
    for table, many, _ in used:
        size = table_size(table)
        k = i // size
        if k == (j - 1) // size:
            return is_shape_lump(stretch_entry(table, many, k), i - k * size, j - k * size)
        if i % size != 0 or (j % size != 0 and j != many):
            return False
        i = k
        j = rounded_up(j, size)
    return _end_presses(plan.end(), left, i, j)


def _walk_end(end, many, path):
    """Return the lump to which a path leads from many lumps that an end presses.

    Where the path goes on from a single lump, the third number returned tells how many
    of its numbers led there.
    """
    i, j = 0, many
    at = 0
    while at < len(path) and j - i > 1:
        middle = j - 1 if end == "left" else i + 1
        if path[at] == 0:
            j = middle
        else:
            i = middle
        at += 1
    return i, j, at


def _walk_entry(shape, place, path, at):
    """Return the lump to which a path leads in an entry, as _walk_end does.

    The entry begins at a place, and the path is gone on with from its number at.
    """
    while at < len(path) and shape != ():
        if path[at] == 1:
            place = place + size_of(shape[0])
        shape = shape[path[at]]
        at += 1
    return place, place + size_of(shape), at


def lump_at(plan, n, path):
    """Return the lump to which path, which may be anything, leads, or None."""
    if not is_path(path):
        return None
    used, left, width = stages_used(plan, n)
    i, j, at = _walk_end(plan.end(), left, path)
    for table, many, narrower in reversed(used):
        if at == len(path):
            break
        # The path goes on from a single lump behind the stage, so into its stretch.
        i, j, at = _walk_entry(stretch_entry(table, many, i), i * table_size(table), path, at)
        width = narrower
    if at < len(path):
        return None
    return (i * width, min(j * width, n))


def _entry_path(shape, i, j):
    """Return the path of the lump (i, j) of an entry."""
    path = ()
    first = 0
    end = size_of(shape)
    while (first, end) != (i, j):
        middle = first + size_of(shape[0])
        if j <= middle:
            end = middle
            step = 0
        else:
            first = middle
            step = 1
        path = path + (step,)
        shape = shape[step]
    return path


def _end_path(end, many, i, j):
    """Return the path of the lump (i, j) of many that an end presses.

    It is told as (step, times, last): so many times the step, and then the path last.
    """
    if end == "left":
        return 0, many - j, () if i == 0 else (1,)
    return 1, i, () if j == many else (0,)


def path_of(plan, n, i, j):
    """Return the path of the lump (i, j), or None if i and j, which may be anything, are none."""
    if not is_lump(plan, n, i, j):
        return None
    used, left, _ = stages_used(plan, n)
    path = ()
    for table, many, _ in used:
        size = table_size(table)
        k = i // size
        if k == (j - 1) // size:
            shape = stretch_entry(table, many, k)
            path = _entry_path(shape, i - k * size, j - k * size) + path
        i = k
        j = rounded_up(j, size)
    step, times, last = _end_path(plan.end(), left, i, j)
    if times + len(last) + len(path) > LONGEST_PATH:
        raise TooGreat()
    return (step,) * times + last + path


def is_place(n, value):
    """Return whether value, which may be anything, is a place of a row of n lumps."""
    return is_number(value) and value < n


def check_place(n, value):
    """Raise BadPlace(value) if value, which may be anything, is no place of a row of n lumps."""
    if not is_place(n, value):
        raise BadPlace(value)


def depth(plan, n, i):
    """Return the depth of a place of a plan at n; i may be anything."""
    check_place(n, i)
    used, left, _ = stages_used(plan, n)
    many_above = 0
    for table, many, _ in used:
        size = table_size(table)
        k = i // size
        shape = stretch_entry(table, many, k)
        many_above += len(_entry_path(shape, i - k * size, i - k * size + 1))
        i = k
    _, times, last = _end_path(plan.end(), left, i, i + 1)
    return many_above + times + len(last)


def _entry_fork(shape, i, j):
    """Return the least lump of an entry with the places i and j, i < j, as (x, z, y).

    Its parts are (x, z) and (z, y).
    """
    first = 0
    while True:
        middle = first + size_of(shape[0])
        if j < middle:
            shape = shape[0]
        elif i >= middle:
            first = middle
            shape = shape[1]
        else:
            return first, middle, first + size_of(shape)


def _fork(plan, n, i, j):
    """Return the least lump of a plan with the places i and j, i < j, as _entry_fork does."""
    used, left, width = stages_used(plan, n)
    for table, many, narrower in used:
        size = table_size(table)
        k = i // size
        if k == j // size:
            shape = stretch_entry(table, many, k)
            fork = _entry_fork(shape, i - k * size, j - k * size)
            return tuple([min((k * size + at) * narrower, n) for at in fork])
        i = k
        j = j // size
    fork = (0, j, j + 1) if plan.end() == "left" else (i, i + 1, left)
    return tuple([min(at * width, n) for at in fork])


def least_lump(plan, n, i, j):
    """Return the least lump that has the places i and j, which may be anything."""
    check_place(n, i)
    check_place(n, j)
    if i == j:
        return (i, i + 1)
    x, _, y = _fork(plan, n, min(i, j), max(i, j))
    return (x, y)


def crossing(plan, n, i, j):
    """Return a lump that crosses the pair (i, j), or None if the pair is a lump."""
    if j - i == 1:
        return None
    x, z, y = _fork(plan, n, i, j - 1)
    if (x, y) == (i, j):
        return None
    if x < i:
        return (x, z)
    return (z, y)

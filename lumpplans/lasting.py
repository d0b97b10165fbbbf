"""Lasting lumps: those that are lumps, with the same part, to whatever number the row grows."""

from lumpplans.digits import is_lump
from lumpplans.errors import TooMany
from lumpplans.gluing import lump_part, lump_parts, stretches
from lumpplans.lumps import in_order
from lumpplans.pressing import rounded_up, stages_used
from lumpplans.tables import entry, table_size

MOST_LISTED = 400


def _breaking_entry(table, r, i, j):
    """Return the first entry behind entry r in which the lump (i, j) of this one breaks, or None."""
    part = lump_part(entry(table, r), i, j)
    for m in range(r + 1, table_size(table) + 1):
        if lump_part(entry(table, m), i, j) != part:
            return m
    return None


def breaks_at(plan, n, i, j):
    """Return the number at which the lump (i, j) of a plan at n breaks, or None if it is lasting."""
    if j - i == 1:
        return None
    used, _, _ = stages_used(plan, n)
    for table, many, width in used:
        size = table_size(table)
        k = i // size
        if k == (j - 1) // size:
            r = min(size, many - k * size)
            m = _breaking_entry(table, r, i - k * size, j - k * size)
            return None if m is None else width * (k * size + m - 1) + 1
        if j == many and many % size != 0:
            return n + 1
        i = k
        j = rounded_up(j, size)
    return None if plan.end() == "left" else n + 1


def is_lasting(plan, n, i, j):
    """Return whether (i, j) is a lasting lump of a plan at n; i and j may be anything."""
    return is_lump(plan, n, i, j) and breaks_at(plan, n, i, j) is None


def _steady_lumps(table, r):
    """Return the lumps of more than one lump of a stretch of r that last while it grows."""
    parts = lump_parts(entry(table, r))
    found = [(i, j) for i, j in parts if j - i > 1]
    for m in range(r + 1, table_size(table) + 1):
        grown = lump_parts(entry(table, m))
        found = [lump for lump in found if grown.get(lump) == parts[lump]]
    return found


def lasting_in_last(stage, n):
    """Return the lasting lumps of more than one lump of the last stretch of a stage.

    The stage is one of those that stages_used returns for n, and the lumps are told as
    the stretch counts its places.
    """
    table, many, width = stage
    size = table_size(table)
    last = (many - 1) // size
    # The last lump that comes to the stage may have fewer places than the others. It
    # grows then, and so does each lump that has it.
    full = n // width - last * size
    return [(i, j) for i, j in _steady_lumps(table, many - last * size) if j <= full]


def placed(stage, k, lumps, n):
    """Return the lumps of the stretch number k of a stage at n, told by the places of the row."""
    table, _, width = stage
    first = k * table_size(table)
    return [((first + i) * width, min((first + j) * width, n)) for i, j in lumps]


def _lasting_in_stage(stage, n):
    """Return the lasting lumps of more than one lump of the stretches of a stage."""
    table, many, _ = stage
    size = table_size(table)
    last = (many - 1) // size
    all_of_full = _steady_lumps(table, size)
    found = placed(stage, last, lasting_in_last(stage, n), n)
    for k in range(last):
        found.extend(placed(stage, k, all_of_full, n))
    return found


def lasting(plan, n):
    """Return the list of the lasting lumps of a plan at n, in order."""
    used, _, width = stages_used(plan, n)
    found = stretches(n, 1)
    for stage in used:
        found.extend(_lasting_in_stage(stage, n))
    if plan.end() == "left":
        found.extend([(0, j * width) for j in range(2, n // width + 1)])
    return in_order(found)


def count_lasting(plan, n):
    """Return how many lasting lumps of a plan at n have more than one place."""
    used, _, width = stages_used(plan, n)
    found = 0
    for stage in used:
        table, many, _ = stage
        size = table_size(table)
        found += (many - 1) // size * (size - 1) + len(lasting_in_last(stage, n))
    if plan.end() == "left":
        found += max(n // width - 1, 0)
    return found


def _new_in_stage(stage, n):
    """Return the lumps of more than one lump of the stretches of a stage that become lasting at n."""
    table, many, width = stage
    # Of a stretch that was not there before one lump alone is there now, so nothing is found.
    before = lasting_in_last((table, rounded_up(n - 1, width), width), n - 1)
    found = [lump for lump in lasting_in_last(stage, n) if lump not in before]
    return placed(stage, (many - 1) // table_size(table), found, n)


def new_lasting(plan, n):
    """Return the list of the lumps of a plan that become lasting at n, in order."""
    used, left, width = stages_used(plan, n)
    found = [(n - 1, n)]
    for stage in used:
        found.extend(_new_in_stage(stage, n))
    if plan.end() == "left" and left > 1 and n % width == 0:
        found.append((0, n))
    if len(found) > MOST_LISTED:
        raise TooMany()
    return in_order(found)

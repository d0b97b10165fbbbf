"""The lumps of plans."""

from lumpplans.gluing import lump_parts, stretches
from lumpplans.pressing import tables_used
from lumpplans.tables import entry, table_size


def _stretch_lumps(shape, stretch):
    """Return the lumps of two or more lumps of a stretch that becomes a shape."""
    found = []
    for i, j in lump_parts(shape):
        if j - i > 1:
            found.append((stretch[i][0], stretch[j - 1][1]))
    return found


def _end_lumps(end, row):
    """Return the lumps of two or more lumps of a row that an end presses."""
    if end == "left":
        return [(row[0][0], lump[1]) for lump in row[1:]]
    return [(lump[0], row[-1][1]) for lump in row[:-1]]


def in_order(lumps):
    """Return the list of some lumps in their order: each comes ahead of those within it."""
    return sorted(lumps, key=lambda lump: (lump[0], -lump[1]))


def all_lumps(plan, n):
    """Return the list of the lumps of a plan at n, in order."""
    row = stretches(n, 1)
    found = list(row)
    for table in tables_used(plan, n):
        behind = []
        for i, j in stretches(len(row), table_size(table)):
            stretch = row[i:j]
            found.extend(_stretch_lumps(entry(table, j - i), stretch))
            behind.append((stretch[0][0], stretch[-1][1]))
        row = behind
    found.extend(_end_lumps(plan.end(), row))
    return in_order(found)

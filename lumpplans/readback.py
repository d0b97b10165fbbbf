"""What the shapes of a plan of some sizes tell of its entries."""

from lumpplans.cuts import above
from lumpplans.errors import Unlike
from lumpplans.gluing import lump_parts, stretches
from lumpplans.shapes import comb, is_shape, size_of


def told_at_first(sizes):
    """Return the entries that are told by no pair: a list for each size, of shapes and None."""
    return [[((), ())] + [None] * (size - 2) for size in sizes]


def _stage_read(entries, shape):
    """Read the stretches of a shape that a table presses of which these entries are told.

    Return the entries that are told then, and the kind and the number of the first
    stretch that does not fit, or None.
    """
    parts = lump_parts(shape)
    pairs = stretches(size_of(shape), len(entries) + 1)
    for s, pair in enumerate(pairs):
        if pair not in parts:
            return entries, ("lump", s)
    found = list(entries)
    for s, (i, j) in enumerate(pairs):
        if j - i > 1:
            if found[j - i - 2] is None:
                found[j - i - 2] = parts[(i, j)]
            elif found[j - i - 2] != parts[(i, j)]:
                return entries, ("entry", s)
    return found, None


def shape_read(told, end, shape):
    """Read a shape of a plan of which these entries are told.

    Return the entries that are told then, in a new list, and the misfit of the shape,
    or None if it fits.
    """
    found = []
    left = shape
    for k, entries in enumerate(told):
        read, fault = _stage_read(entries, left)
        if fault is not None:
            kind, s = fault
            return found, (kind, k, s)
        found.append(read)
        left = above(left, len(entries) + 1)
    if left != comb(size_of(left), end):
        return found, ("end",)
    return found, None


def fits_shape(sizes, end, n, shape):
    """Return whether some plan of these sizes has at n the shape, which may be anything."""
    if not is_shape(shape) or size_of(shape) != n:
        return False
    _, fault = shape_read(told_at_first(sizes), end, shape)
    return fault is None


def entries_told(sizes, end, pairs):
    """Return a list with the list of the entries of each table, with None for those not told."""
    told = told_at_first(sizes)
    for number, (_, shape) in enumerate(pairs):
        told, fault = shape_read(told, end, shape)
        if fault is not None:
            raise Unlike(number)
    return told

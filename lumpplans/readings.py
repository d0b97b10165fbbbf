"""Readings: what the shapes of a plan tell of it, one shape after another."""

from lumpplans.errors import Unlike
from lumpplans.readback import entries_told, shape_read, told_at_first
from lumpplans.shapecounts import count_shapes


def misfit(sizes, end, pairs, pair):
    """Return the misfit of a pair (n, shape) beside pairs that fit together, or None if it fits."""
    _, shape = pair
    _, fault = shape_read(entries_told(sizes, end, pairs), end, shape)
    return fault


class Reading:
    """Some sizes and an end, and what the pairs (n, shape) that were added tell of the plan."""

    def __init__(self, sizes, end):
        self._end = end
        self._pairs = []
        self._told = told_at_first(sizes)

    def add(self, n, shape):
        """Add a pair that fits with the others; return the number of the pairs."""
        told, fault = shape_read(self._told, self._end, shape)
        if fault is not None:
            raise Unlike(fault)
        self._pairs.append((n, shape))
        self._told = told
        return len(self._pairs)

    def pairs(self):
        """Return the list of the pairs that were added."""
        return list(self._pairs)

    def told(self):
        """Return a list with the list of the entries of each table, with None for those not told."""
        return [list(entries) for entries in self._told]

    def lacking(self):
        """Return the list of the pairs (k, m) of the entries that are not told, in order."""
        found = []
        for k, entries in enumerate(self._told):
            found.extend([(k, at + 2) for at, shape in enumerate(entries) if shape is None])
        return found

    def left(self):
        """Return how many plans are left that fit all pairs."""
        many = 1
        for _, m in self.lacking():
            many = many * count_shapes(m)
        return many

    def twin(self):
        """Return a reading that is like this one and goes its own way."""
        other = Reading([], self._end)
        other._pairs = list(self._pairs)
        other._told = self.told()
        return other

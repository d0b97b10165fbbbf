"""Seen cuts: what may be a cut of a plan of which the shapes at the first numbers are known."""

from lumpplans.cuts import entries_counter, judge_entries_counter


def _table_of(shapes):
    """Return the table with the shapes of a list, of the sizes 1, 2 and so on, as its entries."""
    return tuple(shapes[1:])


def seen_counter(shapes, b):
    """Return a counter for b, from 2 to the number of the shapes, or None if b is a seen cut."""
    return entries_counter(_table_of(shapes), b)


def seen_cuts(shapes):
    """Return the ascending list of all seen cuts of a list of shapes."""
    return [b for b in range(2, len(shapes) + 1) if seen_counter(shapes, b) is None]


def judge_seen_counter(shapes, b, value):
    """Return whether value, which may be anything, is a counter for b of a list of shapes."""
    return judge_entries_counter(_table_of(shapes), b, value)

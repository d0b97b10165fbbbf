"""Tables: a table of size b is a tuple of shapes of the sizes from 2 to b."""

from lumpplans.errors import BadTable
from lumpplans.shapes import size_of, wrong_shape_path


def wrong_table_path(value):
    """Return the path of the first wrong part of what should be a table, or None."""
    if not isinstance(value, tuple) or len(value) == 0:
        return ()
    for k, member in enumerate(value):
        path = wrong_shape_path(member)
        if path is not None:
            return (k,) + path
    # Only shapes have sizes, so these are looked at when all members are shapes.
    for k, member in enumerate(value):
        if size_of(member) != k + 2:
            return (k,)
    return None


def is_table(value):
    """Return whether value, which may be anything, is a table."""
    return wrong_table_path(value) is None


def check_table(value):
    """Raise BadTable(path) if value, which may be anything, is no table."""
    path = wrong_table_path(value)
    if path is not None:
        raise BadTable(path)


def table_size(table):
    """Return the size of a table."""
    return len(table) + 1


def entry(table, m):
    """Return the entry m of a table, m from 1 to its size."""
    if m == 1:
        return ()
    return table[m - 2]

"""Tables as words: their letters are primes, and gluing is writing one behind another."""

from lumpplans.cuts import behind, is_cut
from lumpplans.gluing import glued
from lumpplans.primes import common_length, primes, root_length
from lumpplans.tables import table_size


def letters(table):
    """Return the list of the primes of a table."""
    return primes(table)


def rest_behind(one, other):
    """Return the rest of the table other behind one, or None if there is none."""
    size = table_size(one)
    if other[:size - 1] != one or not is_cut(other, size):
        return None
    return behind(other, size)


def rest_ahead(one, other):
    """Return the rest of the table other ahead of one, or None if there is none."""
    size = table_size(other) // table_size(one)
    if not is_cut(other, size) or behind(other, size) != one:
        return None
    return other[:size - 1]


def begins(one, other):
    """Return whether the table one begins the table other."""
    return one == other or rest_behind(one, other) is not None


def ends(one, other):
    """Return whether the table one ends the table other."""
    return one == other or rest_ahead(one, other) is not None


def power(table, n):
    """Return the power n of a table."""
    return glued([table] * n)


def root(table):
    """Return the pair of the root of a table and the number of which it is the power."""
    word = letters(table)
    many = root_length(word)
    return (glued(word[:many]), len(word) // many)


def greatest_beginning(one, other):
    """Return the greatest beginning of two tables, or None if there is none."""
    word = letters(one)
    many = common_length(word, letters(other))
    if many == 0:
        return None
    return glued(word[:many])

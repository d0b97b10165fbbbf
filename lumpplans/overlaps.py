"""Overlaps of tables, and borders and periods of a table."""

from lumpplans.gluing import glued
from lumpplans.tablewords import letters


def _overlap_length(one, other):
    """Return the greatest number of primes with which one list ends and the other begins."""
    many = min(len(one), len(other))
    while one[len(one) - many:] != other[:many]:
        many -= 1
    return many


def overlap(one, other):
    """Return the longest overlap of the table one with the table other, an empty list if none."""
    word = letters(other)
    return word[:_overlap_length(letters(one), word)]


def joint(one, other):
    """Return the table with the fewest primes that one begins and other ends."""
    word = letters(one)
    following = letters(other)
    return glued(word + following[_overlap_length(word, following):])


def borders(table):
    """Return the ascending list of the numbers of primes of all borders of a table."""
    word = letters(table)
    return [many for many in range(1, len(word)) if word[:many] == word[len(word) - many:]]


def periods(table):
    """Return the ascending list of all periods of a table."""
    word = letters(table)
    return [k for k in range(1, len(word) + 1) if word[k:] == word[:len(word) - k]]

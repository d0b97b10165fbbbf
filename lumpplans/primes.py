"""The prime tables of which a table is glued."""

from lumpplans.cuts import cuts, table_above
from lumpplans.tables import table_size


def primes(table):
    """Return the list of the primes of which a table is glued, in order."""
    made = []
    lower = 1
    for upper in cuts(table) + [table_size(table)]:
        made.append(table_above(table, lower, upper // lower))
        lower = upper
    return made


def is_prime_table(table):
    """Return whether a table is prime."""
    return cuts(table) == []


def common_length(one, other):
    """Return with how many equal members two lists of primes begin."""
    many = 0
    while many < len(one) and many < len(other) and one[many] == other[many]:
        many += 1
    return many


def root_length(word):
    """Return the least number of first members that a list of primes repeats to its end."""
    many = 1
    while word[many:] + word[:many] != word:
        many += 1
    return many

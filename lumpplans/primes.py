"""The prime tables of which a table is glued."""

from lumpplans.cuts import cuts, table_above
from lumpplans.tables import table_size


def primes(table):
    """Return the list of the primes of which a table is glued, in order."""
    made = []
    lower = 1
    for upper in cuts(table) + [table_size(table)]:
        made.append(table_above(table, lower, upper // lower))
        lower = upper
    return made


def is_prime_table(table):
    """Return whether a table is prime."""
    return cuts(table) == []

"""The numbers of tables and of primes in order, and the tables of a number."""

from lumpplans.errors import TooGreat
from lumpplans.gluing import glue
from lumpplans.primes import is_prime_table
from lumpplans.shapecounts import counts_up_to, next_shape, number_by_counts, shape_by_counts
from lumpplans.shapes import comb
from lumpplans.tablecounts import count_tables, first_sizes
from lumpplans.tables import entry, table_size


def table_number(table):
    """Return how many tables of its size come before a table."""
    size = table_size(table)
    counts = counts_up_to(size)
    number = 0
    for m in range(2, size + 1):
        number = number * counts[m] + number_by_counts(entry(table, m), counts)
    return number


def _table_by_number(size, number):
    """Return the table of a size with a number that is less than that of these tables."""
    counts = counts_up_to(size)
    entries = []
    for m in range(size, 1, -1):
        number, digit = divmod(number, counts[m])
        entries.append(shape_by_counts(m, digit, counts))
    return tuple(entries[::-1])


def table_of(size, number):
    """Return the table of a size with a number; raise TooGreat() if there is none."""
    if number >= count_tables(size):
        raise TooGreat()
    return _table_by_number(size, number)


def next_table(table):
    """Return the table of the same size with the next number, or None if there is none."""
    for m in range(table_size(table), 1, -1):
        following = next_shape(entry(table, m))
        if following is not None:
            # All entries behind the one that goes on begin anew.
            firsts = [comb(k, "right") for k in range(m + 1, table_size(table) + 1)]
            return table[:m - 2] + (following,) + tuple(firsts)
    return None


def drawn_table(size, number):
    """Return the table whose number is what is left of a number divided by that of all tables."""
    return _table_by_number(size, number % count_tables(size))


def tables_from(size, *, number=0, many=10):
    """Return the list of the tables of a size from a number on, many or all that there are."""
    if number >= count_tables(size):
        return []
    found = []
    table = _table_by_number(size, number)
    while table is not None and len(found) < many:
        found.append(table)
        table = next_table(table)
    return found


def _glued_numbers(size):
    """Return the ascending list of the numbers of the tables of a size that are no primes."""
    found = []
    for b in first_sizes(size):
        for first in range(count_tables(b)):
            s = _table_by_number(b, first)
            if is_prime_table(s):
                for rest in range(count_tables(size // b)):
                    found.append(table_number(glue(s, _table_by_number(size // b, rest))))
    return sorted(found)


def prime_of(size, number):
    """Return the prime of a size with a prime number; raise TooGreat() if there is none."""
    for glued_number in _glued_numbers(size):
        if glued_number <= number:
            number += 1
    return table_of(size, number)


def prime_number(table):
    """Return how many primes of its size come before a table, or None if it is no prime."""
    if not is_prime_table(table):
        return None
    number = table_number(table)
    return number - len([k for k in _glued_numbers(table_size(table)) if k < number])

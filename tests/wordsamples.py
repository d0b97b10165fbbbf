"""Tables that are glued of few primes, and the words of these."""

import itertools
import random

from lumpplans.gluing import glue, glued
from lumpplans.tables import table_size
from tests.samples import TWO, L, R, PRIME_SIX, exchanged

E = TWO
A = glue(E, L)
B = glue(L, E)
LARGEST = 60


def size_of_word(word):
    size = 1
    for prime in word:
        size *= table_size(prime)
    return size


def words(letters, longest, largest=LARGEST):
    """Return the tuples of these primes that glued make tables that are not too great."""
    return [
        word for many in range(1, longest + 1) for word in itertools.product(letters, repeat=many)
        if size_of_word(word) <= largest]


# Few letters, so that words often begin, end and repeat one another.
WORDS = words((TWO, L), 4, 24)
TABLES = [glued(word) for word in WORDS]


def near_tables():
    """Return tables that have an entry otherwise than a glued one, so that most are primes."""
    draw = random.Random(70)
    return [exchanged(draw, table) for table in TABLES if len(table) > 1] + [R, PRIME_SIX]

"""How many tables and primes of a size there are, and how many tables are glued of k primes."""

from lumpplans.shapecounts import counts_up_to


def count_tables(size):
    """Return how many tables of a size there are."""
    counts = counts_up_to(size)
    made = 1
    for m in range(2, size + 1):
        made = made * counts[m]
    return made


def first_sizes(size):
    """Return the ascending list of the sizes that the first prime of a glued table may have."""
    return [b for b in range(2, size // 2 + 1) if size % b == 0]


def count_primes(size):
    """Return how many primes of a size there are."""
    glued = [count_primes(b) * count_tables(size // b) for b in first_sizes(size)]
    return count_tables(size) - sum(glued)


def count_glued(size, k):
    """Return how many tables of a size are glued of k primes."""
    if k == 1:
        return count_primes(size)
    return sum([count_primes(b) * count_glued(size // b, k - 1) for b in first_sizes(size)])

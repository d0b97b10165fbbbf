"""How many shapes of a size there are, and their numbers in order."""

from lumpplans.errors import TooGreat
from lumpplans.shapes import size_of


def counts_up_to(m):
    """Return the list of the numbers of the shapes of the sizes 0 to m; there is none of size 0."""
    counts = [0, 1]
    for size in range(2, m + 1):
        counts.append(sum([counts[k] * counts[size - k] for k in range(1, size)]))
    return counts


def count_shapes(m):
    """Return the number of the shapes of size m."""
    return counts_up_to(m)[m]


def number_by_counts(shape, counts):
    """Return the number of a shape, by counts as counts_up_to returns them."""
    if shape == ():
        return 0
    left, right = shape
    left_size = size_of(left)
    right_size = size_of(right)
    number = number_by_counts(left, counts) * counts[right_size] + number_by_counts(right, counts)
    for k in range(1, left_size):
        number += counts[k] * counts[left_size + right_size - k]
    return number


def shape_number(shape):
    """Return how many shapes of its size come before a shape."""
    return number_by_counts(shape, counts_up_to(size_of(shape)))


def shape_by_counts(m, number, counts):
    """Return the shape of size m with a number that is less than that of these shapes."""
    if m == 1:
        return ()
    k = 1
    while number >= counts[k] * counts[m - k]:
        number -= counts[k] * counts[m - k]
        k += 1
    left, right = divmod(number, counts[m - k])
    return (shape_by_counts(k, left, counts), shape_by_counts(m - k, right, counts))


def shape_of(m, number):
    """Return the shape of size m with a number; raise TooGreat() if there is none."""
    counts = counts_up_to(m)
    if number >= counts[m]:
        raise TooGreat()
    return shape_by_counts(m, number, counts)


def next_shape(shape):
    """Return the shape of the same size with the next number, or None if there is none."""
    m = size_of(shape)
    counts = counts_up_to(m)
    number = number_by_counts(shape, counts) + 1
    if number == counts[m]:
        return None
    return shape_by_counts(m, number, counts)

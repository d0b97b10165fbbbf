"""How many shapes are no higher than a height, and how many shapes and tables are low."""

from lumpplans.errors import TooGreat
from lumpplans.heights import least_height
from lumpplans.shapes import shape_height, size_of


def _counts_by_height(m, h):
    """Return a list with a list for each height from 0 to h.

    It tells how many shapes of each size from 0 to m are no higher; there is none of size 0.
    """
    rows = [[0, 1] + [0] * (m - 1)]
    for _ in range(h):
        below = rows[-1]
        row = [0, 1]
        for size in range(2, m + 1):
            row.append(sum([below[k] * below[size - k] for k in range(1, size)]))
        rows.append(row)
    return rows


def count_high(m, h):
    """Return how many shapes of size m have a height of at most h."""
    return _counts_by_height(m, h)[h][m]


def count_low(m):
    """Return how many low shapes of size m there are."""
    return count_high(m, least_height(m))


def count_low_tables(size):
    """Return how many low tables of a size there are."""
    rows = _counts_by_height(size, least_height(size))
    made = 1
    for m in range(2, size + 1):
        made = made * rows[least_height(m)][m]
    return made


def _shape_by_rows(m, h, number, rows):
    """Return the shape of size m with a low number for h that is less than that of these shapes."""
    if m == 1:
        return ()
    below = rows[h - 1]
    k = 1
    while number >= below[k] * below[m - k]:
        number -= below[k] * below[m - k]
        k += 1
    left, right = divmod(number, below[m - k])
    return (_shape_by_rows(k, h - 1, left, rows), _shape_by_rows(m - k, h - 1, right, rows))


def high_shape(m, h, number):
    """Return the shape of size m with a low number for h; raise TooGreat() if there is none."""
    rows = _counts_by_height(m, h)
    if number >= rows[h][m]:
        raise TooGreat()
    return _shape_by_rows(m, h, number, rows)


def _number_by_rows(shape, h, rows):
    """Return the low number of a shape for h, which is no less than its height."""
    if shape == ():
        return 0
    below = rows[h - 1]
    left, right = shape
    left_size = size_of(left)
    right_size = size_of(right)
    number = _number_by_rows(left, h - 1, rows) * below[right_size] + _number_by_rows(right, h - 1, rows)
    for k in range(1, left_size):
        number += below[k] * below[left_size + right_size - k]
    return number


def high_number(shape, h):
    """Return the low number of a shape for h, or None if it is higher."""
    if shape_height(shape) > h:
        return None
    return _number_by_rows(shape, h, _counts_by_height(size_of(shape), h))


def low_table(size, number):
    """Return the low table of a size behind as many as number; raise TooGreat() if there is none."""
    rows = _counts_by_height(size, least_height(size))
    entries = []
    for m in range(size, 1, -1):
        h = least_height(m)
        number, digit = divmod(number, rows[h][m])
        entries.append(_shape_by_rows(m, h, digit, rows))
    if number > 0:
        raise TooGreat()
    return tuple(entries[::-1])

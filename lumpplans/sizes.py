"""How many lumps of each size a plan has, at numbers of any length."""

from lumpplans.errors import TooMany
from lumpplans.gluing import lump_parts
from lumpplans.pressing import stages_used, stretch_entry
from lumpplans.tables import entry, table_size

MOST_SIZES = 400


def _add(counts, size, many):
    """Count many lumps of a size more in a dict."""
    counts[size] = counts.get(size, 0) + many


def _count_stage(stage, last_width, counts):
    """Count the lumps of more than one lump of the stretches of a stage in a dict.

    The last one of the lumps that come to the stage has last_width places.
    """
    table, many, width = stage
    size = table_size(table)
    full = (many - 1) // size
    if full > 0:
        for i, j in lump_parts(entry(table, size)):
            if j - i > 1:
                _add(counts, (j - i) * width, full)
    last_entry = stretch_entry(table, many, full)
    for i, j in lump_parts(last_entry):
        if j - i > 1 and full * size + j == many:
            _add(counts, (j - i - 1) * width + last_width, 1)
        elif j - i > 1:
            _add(counts, (j - i) * width, 1)


def _stage_counts(used, n):
    """Return the dict of the lumps by their sizes, but for those that the end presses."""
    counts = {1: n}
    for stage in used:
        _, many, width = stage
        _count_stage(stage, n - (many - 1) * width, counts)
    return counts


def _first_end_size(end, n, left, width):
    """Return the size of the least lump of two that an end presses, of left lumps in all.

    The next ones have one lump more each, of so many places, up to the whole.
    """
    if end == "left":
        return 2 * width
    return n - (left - 2) * width


def lump_sizes(plan, n):
    """Return the ascending list of the pairs (size, many) of the lumps of a plan at n."""
    used, left, width = stages_used(plan, n)
    # The lumps that the end presses are of left - 1 unlike sizes, and single ones of another.
    if left > MOST_SIZES:
        raise TooMany()
    counts = _stage_counts(used, n)
    first = _first_end_size(plan.end(), n, left, width)
    for k in range(left - 2):
        _add(counts, first + k * width, 1)
    if left > 1:
        _add(counts, n, 1)
    if len(counts) > MOST_SIZES:
        raise TooMany()
    return sorted(counts.items())


def count_of_size(plan, n, size):
    """Return how many lumps of a plan at n have a size."""
    used, left, width = stages_used(plan, n)
    many = _stage_counts(used, n).get(size, 0)
    if left == 1:
        return many
    first = _first_end_size(plan.end(), n, left, width)
    at, over = divmod(size - first, width)
    if size == n or (over == 0 and 0 <= at < left - 2):
        many += 1
    return many

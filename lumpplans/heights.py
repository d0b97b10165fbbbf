"""Heights of plans at numbers of any length, and plans of the least height at all of them."""

from lumpplans.plainforms import prime_parts
from lumpplans.pressing import stages_used, stretch_entry
from lumpplans.shapes import paths_of, shape_height
from lumpplans.tables import entry, table_size
from lumpplans.words import is_number


def _deepest_of(depths):
    """Return the greatest of some depths and its place, or (0, None) if there are none."""
    if len(depths) == 0:
        return 0, None
    return max(depths), depths.index(max(depths))


def _end_depths(end, many):
    """Return the depth of the last of many lumps that an end presses, and the deepest other.

    The other one is told by its depth and its place, (0, None) if there is none.
    """
    if many == 1:
        return 0, 0, None
    if end == "left":
        return 1, many - 1, 0
    return many - 1, many - 1, many - 2


def _entry_depths(shape):
    """Return the list of the depths of the places of an entry."""
    return [len(path) for path in paths_of(shape)]


def _depths(plan, n):
    """Return the depth of the last place, and the greatest depth ahead with a place of it."""
    used, left, _ = stages_used(plan, n)
    last, ahead, at = _end_depths(plan.end(), left)
    for table, many, _ in reversed(used):
        size = table_size(table)
        last_stretch = (many - 1) // size
        in_last = _entry_depths(stretch_entry(table, many, last_stretch))
        beside, place_beside = _deepest_of(in_last[:-1])
        if at is not None:
            # The lumps ahead of the last one come of full stretches.
            within, place_within = _deepest_of(_entry_depths(entry(table, size)))
            ahead = ahead + within
            at = at * size + place_within
        if place_beside is not None and (at is None or last + beside > ahead):
            ahead = last + beside
            at = last_stretch * size + place_beside
        last = last + in_last[-1]
    return last, ahead, at


def last_depths(plan, n):
    """Return the pair of the depth of the last place and the greatest depth ahead of it."""
    last, ahead, _ = _depths(plan, n)
    return (last, ahead)


def height(plan, n):
    """Return the height of a plan at n."""
    return max(last_depths(plan, n))


def deepest(plan, n):
    """Return a place of a plan at n whose depth is the height."""
    _, _, at = _depths(plan, n)
    # What the last place is pressed with has a place that is at least as deep.
    if at is None:
        return n - 1
    return at


def least_height(n):
    """Return the least number h such that 2 ** h is at least n."""
    return (n - 1).bit_length()


def _too_high_at(prime):
    """Return how many lumps make a plan too high that begins with this prime, or None.

    It is None if only what comes behind the prime can make the plan too high.
    """
    size = table_size(prime)
    for m in range(2, size + 1):
        if shape_height(entry(prime, m)) > least_height(m):
            return m
    high = 1 << least_height(size)
    if size == high:
        return None
    # A full stretch is as high as one of high lumps, which is more than it has. One
    # stretch more than a power of 2 needs one height more behind the prime; but if the
    # power is great enough, all their lumps together would not need it.
    stretches = 1
    while size * (stretches + 1) > high * stretches:
        stretches = stretches * 2
    return size * (stretches + 1)


def height_paper(plan):
    """Return a number of at most 10 ** 30 at which the height is not the least one, or None."""
    ahead, again = prime_parts(plan)
    width = 1
    for prime in ahead + again:
        m = _too_high_at(prime)
        if m is not None:
            return width * m
        width = width * table_size(prime)
    if isinstance(plan.end(), str):
        return width * 4
    return None


def is_least_high(plan):
    """Return whether the height of a plan is the least one at each number."""
    return height_paper(plan) is None


def judge_height_paper(plan, value):
    """Return whether value, which may be anything, is a number at which a plan is too high."""
    if not is_number(value) or value == 0:
        return False
    return height(plan, value) > least_height(value)

"""Lengths: the numbers of lumps at which one looks to tell a plan of some sizes."""

from lumpplans.pressing import rounded_up


def used_entries(sizes, n):
    """Return the ascending list of the pairs (k, m) of the entries that the tables use at n."""
    found = []
    many = n
    for k, size in enumerate(sizes):
        if many % size >= 2:
            found.append((k, many % size))
        if many >= size:
            found.append((k, size))
        many = rounded_up(many, size)
    return found


def lacking(sizes, lengths):
    """Return the list of the pairs (k, m) of the entries of at least 3 that no length uses."""
    used = {}
    for n in lengths:
        for pair in used_entries(sizes, n):
            used[pair] = True
    return [(k, m) for k, size in enumerate(sizes) for m in range(3, size + 1) if (k, m) not in used]


def are_telling(sizes, lengths):
    """Return whether lengths tell the plans of these sizes."""
    return lacking(sizes, lengths) == []


def _length_using(sizes, m):
    """Return a length that uses the last entry of each table, and entry m of those that are greater."""
    many = 2
    for size in reversed(sizes):
        many = (many - 1) * size + min(m, size)
    return many


def fewest_lengths(sizes):
    """Return an ascending list of as few lengths as can be that tell the plans of these sizes."""
    greatest = max(sizes, default=2)
    if greatest == 2:
        return []
    # Each uses the last entry of the greatest table, and one of the others from 3 on, if there are any.
    return [_length_using(sizes, m) for m in range(3, max(greatest, 4))]


def next_length(sizes, lengths):
    """Return a length at which the first lacking entry is used, or None if there is none."""
    missing = lacking(sizes, lengths)
    if missing == []:
        return None
    k, many = missing[0]
    for size in sizes[:k]:
        many = many * size
    return many

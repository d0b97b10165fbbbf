"""The kept lumps of a row: its lasting lumps of more than one place, and their parts."""

from lumpplans.lasting import lasting


def kept_middles(plan, n):
    """Return the dict of the kept lumps of a plan at n, in order.

    Each has the place where its right part begins; a row of no lumps keeps none.
    """
    if n == 0:
        return {}
    lumps = lasting(plan, n)
    # All lumps within a lasting lump are lasting, so its left part comes next in order.
    return {lump: part[1] for lump, part in zip(lumps, lumps[1:]) if lump[1] - lump[0] > 1}


def kept_on(before, after):
    """Return the dict of the lumps that are kept before and after, and have the same part.

    Before and after are such dicts as kept_middles returns.
    """
    same = {}
    # Gone through from behind, the parts of a lump come ahead of it.
    for i, j in reversed(list(after)):
        middle = after[(i, j)]
        if before.get((i, j)) == middle:
            if all([part in same or part[1] - part[0] == 1 for part in ((i, middle), (middle, j))]):
                same[(i, j)] = middle
    return same

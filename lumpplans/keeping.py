"""What rows keep pressed, and what it costs to change them."""

from lumpplans.digits import check_place
from lumpplans.keptparts import kept_middles, kept_on
from lumpplans.lasting import count_lasting


def kept_lumps(plan, n):
    """Return the list of the kept lumps of a row with a plan and n lumps, in order."""
    return list(kept_middles(plan, n))


def count_kept(plan, n):
    """Return how many kept lumps a row with a plan and n lumps has."""
    return 0 if n == 0 else count_lasting(plan, n)


def switch(plan, other, n):
    """Return the pair (cost, loss) of giving the Plan other to a row with a plan and n lumps."""
    before = kept_middles(plan, n)
    after = kept_middles(other, n)
    same = len(kept_on(before, after))
    return (len(after) - same, len(before) - same)


def change_cost(plan, n, place):
    """Return how many kept lumps of a row have a place, which may be anything."""
    check_place(n, place)
    return len([(i, j) for i, j in kept_lumps(plan, n) if i <= place < j])

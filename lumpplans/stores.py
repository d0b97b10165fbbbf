"""Stores: the greatest lasting lumps, which share out a row."""

from lumpplans.errors import TooMany
from lumpplans.gluing import stretches
from lumpplans.lasting import MOST_LISTED, lasting_in_last, placed
from lumpplans.pressing import stages_used
from lumpplans.tables import table_size


def share_out(lumps, first, end):
    """Return the greatest of some lumps, and single ones, that share out the places first to end.

    Of two of the lumps the one is within the other, or they have no place in common.
    """
    ends = {}
    for i, j in lumps:
        ends[i] = max(j, ends.get(i, j))
    found = []
    at = first
    while at < end:
        behind = ends.get(at, at + 1)
        found.append((at, behind))
        at = behind
    return found


def end_store(end, many, width):
    """Return the greatest lasting lumps of many full lumps behind all stages that an end presses."""
    if end == "right":
        if many > MOST_LISTED:
            raise TooMany()
        return stretches(many * width, width)
    # Behind a round there is at most one full lump.
    return stretches(many * width, max(many, 1) * width)


def _last_stretch_store(stage, n):
    """Return the greatest lasting lumps of the full lumps of the last stretch of a stage."""
    table, many, width = stage
    size = table_size(table)
    last = (many - 1) // size
    found = share_out(lasting_in_last(stage, n), 0, n // width - last * size)
    return placed(stage, last, found, n)


def store(plan, n):
    """Return the list of the lumps of the store of a plan at n."""
    used, _, width = stages_used(plan, n)
    found = end_store(plan.end(), n // width, width)
    for stage in reversed(used):
        # What is not full behind the stage is the last stretch, of which the parts are told.
        if n % width == 0:
            break
        found.extend(_last_stretch_store(stage, n))
        _, _, width = stage
    if len(found) > MOST_LISTED:
        raise TooMany()
    return found

"""Rows that are pressed by plans."""

from lumpplans.gluing import pressed_row, stretches
from lumpplans.tables import table_size


def tables_used(plan, n):
    """Return the tables of the stages by which a row of n lumps goes, in order."""
    used = []
    left = n
    table = plan.stage(0)
    while left > 1 and table is not None:
        used.append(table)
        left = (left + table_size(table) - 1) // table_size(table)
        table = plan.stage(len(used))
    return used


def _pressed_from_left(row):
    """Return the shape of a row of shapes that is pressed from the left."""
    whole = row[0]
    for part in row[1:]:
        whole = (whole, part)
    return whole


def _pressed_from_right(row):
    """Return the shape of a row of shapes that is pressed from the right."""
    whole = row[-1]
    for part in row[-2::-1]:
        whole = (part, whole)
    return whole


def shape(plan, n):
    """Return the shape of a plan at n."""
    row = [()] * n
    for table in tables_used(plan, n):
        row = pressed_row(table, row)
    # Behind a round one lump is left, which is the whole from either side.
    if plan.end() == "left":
        return _pressed_from_left(row)
    return _pressed_from_right(row)


def row_behind(plan, n, k):
    """Return the list of the pairs of the lumps behind k stages, or all that there are."""
    width = 1
    for table in tables_used(plan, n)[:k]:
        width = width * table_size(table)
    return stretches(n, width)

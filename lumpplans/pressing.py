"""Rows that are pressed by plans."""

from lumpplans.gluing import pressed_row, stretches
from lumpplans.tables import entry, table_size


def rounded_up(many, size):
    """Return many / size, rounded up."""
    return (many + size - 1) // size


def stages_used(plan, n):
    """Return the stages by which a row of n lumps goes, and what is left behind them.

    Each stage is told as (table, many, width): so many lumps come to the table, each of
    so many places, but for the last one, which may have fewer. What is left is told by
    the last two of these.
    """
    used = []
    many = n
    width = 1
    table = plan.stage(0)
    while many > 1 and table is not None:
        used.append((table, many, width))
        many = rounded_up(many, table_size(table))
        width = width * table_size(table)
        table = plan.stage(len(used))
    return used, many, width


def tables_used(plan, n):
    """Return the tables of the stages by which a row of n lumps goes, in order."""
    used, _, _ = stages_used(plan, n)
    return [table for table, _, _ in used]


def stretch_entry(table, many, k):
    """Return the entry by which a table presses the stretch number k of many lumps."""
    return entry(table, min(table_size(table), many - k * table_size(table)))


def _pressed_from_left(row):
    """Return the shape of a row of shapes that is pressed from the left."""
    whole = row[0]
    for part in row[1:]:
        whole = (whole, part)
    return whole


def _pressed_from_right(row):
    """Return the shape of a row of shapes that is pressed from the right."""
    whole = row[-1]
    for part in row[-2::-1]:
        whole = (part, whole)
    return whole


def shape(plan, n):
    """Return the shape of a plan at n."""
    row = [()] * n
    for table in tables_used(plan, n):
        row = pressed_row(table, row)
    # Behind a round one lump is left, which is the whole from either side.
    if plan.end() == "left":
        return _pressed_from_left(row)
    return _pressed_from_right(row)


def row_behind(plan, n, k):
    """Return the list of the pairs of the lumps behind k stages, or all that there are."""
    width = 1
    for table in tables_used(plan, n)[:k]:
        width = width * table_size(table)
    return stretches(n, width)

"""Stretches of rows, gluing of tables, and lumps of shapes."""

from lumpplans.tables import entry, table_size


def stretches(m, b):
    """Return the list of the pairs (i, j) of the stretches of b of m lumps."""
    return [(i, min(i + b, m)) for i in range(0, m, b)]


def _filled_from(shape, parts, place):
    """Return the shape filled with the parts from a place on, and the place behind."""
    if shape == ():
        return parts[place], place + 1
    left, middle = _filled_from(shape[0], parts, place)
    right, end = _filled_from(shape[1], parts, middle)
    return (left, right), end


def filled(shape, parts):
    """Return the shape with each lump exchanged for the part of its place."""
    whole, _ = _filled_from(shape, parts, 0)
    return whole


def pressed_row(table, row):
    """Return the row of shapes that comes of a row of shapes if the table presses it."""
    size = table_size(table)
    return [filled(entry(table, j - i), row[i:j]) for i, j in stretches(len(row), size)]


def glue(s, t):
    """Return the table glued of the tables s and t, s pressing first."""
    size = table_size(s) * table_size(t)
    made = []
    for m in range(2, size + 1):
        whole = pressed_row(t, pressed_row(s, [()] * m))
        made.append(whole[0])
    return tuple(made)


def glued(tables):
    """Return the table glued of all tables of a list with at least one, in order."""
    made = tables[0]
    for table in tables[1:]:
        made = glue(made, table)
    return made


def _note_parts(shape, place, parts):
    """Note in a dict the part of each lump, from a place on; return the place behind."""
    end = place + 1
    if shape != ():
        middle = _note_parts(shape[0], place, parts)
        end = _note_parts(shape[1], middle, parts)
    parts[(place, end)] = shape
    return end


def lump_parts(shape):
    """Return the dict of all lumps of a shape, each with its part."""
    parts = {}
    _note_parts(shape, 0, parts)
    return parts


def is_shape_lump(shape, i, j):
    """Return whether the pair (i, j) of integers is a lump of a shape."""
    return (i, j) in lump_parts(shape)


def lump_part(shape, i, j):
    """Return the part of a shape with just the places of (i, j), or None."""
    return lump_parts(shape).get((i, j))

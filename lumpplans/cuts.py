"""Cuts of tables, and counters that tell why a number is none."""

from lumpplans.errors import NoCut
from lumpplans.gluing import lump_parts, stretches
from lumpplans.tables import entry, table_size
from lumpplans.words import is_number


def _stretch_faults(table, b, m):
    """Return, for each stretch of b of entry m, "lump", "shape" or None if it is right."""
    parts = lump_parts(entry(table, m))
    faults = []
    for i, j in stretches(m, b):
        if (i, j) not in parts:
            faults.append("lump")
        elif parts[(i, j)] != entry(table, j - i):
            faults.append("shape")
        else:
            faults.append(None)
    return faults


def _above_from(shape, b, place):
    """Return what is above the stretches of b, from a place on, and the place behind."""
    if shape == ():
        return (), place + 1
    left, middle = _above_from(shape[0], b, place)
    right, end = _above_from(shape[1], b, middle)
    if place // b == (end - 1) // b:
        return (), end
    return (left, right), end


def above(shape, b):
    """Return the shape with its stretches of b, which must be lumps, as one lump each."""
    made, _ = _above_from(shape, b, 0)
    return made


def _first_stretch_counter(table, b):
    """Return the first counter of the kinds "lump" and "shape", by m and k, or None."""
    for m in range(2, table_size(table) + 1):
        for k, fault in enumerate(_stretch_faults(table, b, m)):
            if fault is not None:
                return (fault, m, k)
    return None


def _first_above_counter(table, b):
    """Return a counter of the kind "above" or None, where no stretch has a fault."""
    for n in range(b + 1, table_size(table) + 1):
        # The entry with as many stretches, of which the last one is a single lump.
        m = (n - 1) // b * b + 1
        if above(entry(table, m), b) != above(entry(table, n), b):
            return ("above", m, n)
    return None


def entries_counter(table, b):
    """Return a counter for b of another kind than "size", or None if there is none of these."""
    found = _first_stretch_counter(table, b)
    if found is None:
        found = _first_above_counter(table, b)
    return found


def counter(table, b):
    """Return a counter for b, from 2 to the size less 1, or None if b is a cut."""
    if table_size(table) % b != 0:
        return ("size",)
    return entries_counter(table, b)


def is_cut(table, b):
    """Return whether b, which may be anything, is a cut of a table."""
    if not is_number(b) or not 2 <= b < table_size(table):
        return False
    return counter(table, b) is None


def cuts(table):
    """Return the ascending list of all cuts of a table."""
    return [b for b in range(2, table_size(table)) if counter(table, b) is None]


def table_above(table, b, size):
    """Return the table of a size behind a cut b, told by the entries up to b * size."""
    return tuple([above(entry(table, b * m), b) for m in range(2, size + 1)])


def behind(table, b):
    """Return the table behind the cut b; raise NoCut(counter) if b is no cut."""
    found = counter(table, b)
    if found is not None:
        raise NoCut(found)
    return table_above(table, b, table_size(table) // b)


def _is_stretch_counter(table, b, kind, m, k):
    """Return whether the stretch number k of entry m has a fault of this kind."""
    faults = _stretch_faults(table, b, m)
    return k < len(faults) and faults[k] == kind


def _is_above_counter(table, b, m, n):
    """Return whether ("above", m, n) is a counter, m and n being sizes of entries."""
    if m >= n or len(stretches(m, b)) != len(stretches(n, b)):
        return False
    for size in (m, n):
        if any([fault is not None for fault in _stretch_faults(table, b, size)]):
            return False
    return above(entry(table, m), b) != above(entry(table, n), b)


def judge_entries_counter(table, b, value):
    """Return whether value, which may be anything, is a counter for b of another kind than "size"."""
    if not isinstance(value, tuple) or len(value) != 3:
        return False
    kind, m, last = value
    if not is_number(m) or not 2 <= m <= table_size(table) or not is_number(last):
        return False
    if kind == "lump" or kind == "shape":
        return _is_stretch_counter(table, b, kind, m, last)
    if kind == "above" and last <= table_size(table):
        return _is_above_counter(table, b, m, last)
    return False


def judge_counter(table, b, value):
    """Return whether value, which may be anything, is a counter for b."""
    if value == ("size",):
        return table_size(table) % b != 0
    return judge_entries_counter(table, b, value)

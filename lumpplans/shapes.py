"""Shapes: () is one lump, and (s, t) is what the shapes s and t are pressed to."""

from lumpplans.errors import BadShape
from lumpplans.words import is_number


def wrong_shape_path(value):
    """Return the path of the first wrong part of what should be a shape, or None."""
    if not isinstance(value, tuple) or len(value) not in (0, 2):
        return ()
    for step, part in enumerate(value):
        path = wrong_shape_path(part)
        if path is not None:
            return (step,) + path
    return None


def is_shape(value):
    """Return whether value, which may be anything, is a shape."""
    return wrong_shape_path(value) is None


def check_shape(value):
    """Raise BadShape(path) if value, which may be anything, is no shape."""
    path = wrong_shape_path(value)
    if path is not None:
        raise BadShape(path)


def size_of(shape):
    """Return the number of the lumps of a shape."""
    if shape == ():
        return 1
    return size_of(shape[0]) + size_of(shape[1])


def shape_height(shape):
    """Return how many times one presses, at the most, above a lump of a shape."""
    if shape == ():
        return 0
    return 1 + max(shape_height(shape[0]), shape_height(shape[1]))


def is_path(value):
    """Return whether value, which may be anything, is a path."""
    if not isinstance(value, tuple):
        return False
    return all([is_number(step) and step <= 1 for step in value])


def part_at(shape, path):
    """Return the part to which path, which may be anything, leads, or None."""
    if not is_path(path):
        return None
    part = shape
    for step in path:
        if part == ():
            return None
        part = part[step]
    return part


def paths_of(shape):
    """Return the list of the paths to the single lumps, by their places."""
    if shape == ():
        return [()]
    left = [(0,) + path for path in paths_of(shape[0])]
    right = [(1,) + path for path in paths_of(shape[1])]
    return left + right


def comb(n, side):
    """Return the left comb of size n if side is "left", and else the right comb."""
    made = ()
    for _ in range(n - 1):
        made = (made, ()) if side == "left" else ((), made)
    return made

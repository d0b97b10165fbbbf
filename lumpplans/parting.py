"""Where two plans part: the least number at which their shapes are unlike."""

from lumpplans.errors import Alike
from lumpplans.plainforms import plain
from lumpplans.plans import Plan
from lumpplans.pressing import shape
from lumpplans.shapes import is_path, size_of
from lumpplans.tables import table_size
from lumpplans.words import is_number


def _common_primes(one, other):
    """Return the list of the primes with which two plain forms begin, unlike if with rounds."""
    found = []
    prime = one.stage(0)
    while prime is not None and prime == other.stage(len(found)):
        found.append(prime)
        prime = one.stage(len(found))
    return found


def common_beginning(one, other):
    """Return the list of the primes of the common beginning of two plans."""
    first = plain(one)
    second = plain(other)
    if first == second and not isinstance(first.end(), str):
        raise Alike()
    return _common_primes(first, second)


def _plan_behind(form, many):
    """Return what is left of a plain form behind its first primes."""
    tables = form.tables()
    end = form.end()
    if many <= len(tables):
        return Plan(tables[many:], end)
    turned = (many - len(tables)) % len(end)
    return Plan((), end[turned:] + end[:turned])


def _unlike_rests(first, second):
    """Return how two unlike plain forms differ behind their common beginning.

    That is told as (width, m, one, other): the common beginning makes lumps of so many
    places, and what is left of the forms has the unlike shapes one and other at m, and
    equal ones at all lesser numbers.
    """
    common = _common_primes(first, second)
    width = 1
    for prime in common:
        width = width * table_size(prime)
    one_rest = _plan_behind(first, len(common))
    other_rest = _plan_behind(second, len(common))
    m = 2
    one = shape(one_rest, m)
    other = shape(other_rest, m)
    while one == other:
        m += 1
        one = shape(one_rest, m)
        other = shape(other_rest, m)
    return width, m, one, other


def least_parting_of_forms(first, second):
    """Return the least n at which two plain forms have unlike shapes, or None if they are equal."""
    if first == second:
        return None
    width, m, _, _ = _unlike_rests(first, second)
    return width * (m - 1) + 1


def least_parting(one, other):
    """Return the least n at which two plans have unlike shapes, or None if they are alike."""
    return least_parting_of_forms(plain(one), plain(other))


def _unlike_path(one, other):
    """Return the first path at which the left parts of two unlike shapes have unlike sizes."""
    path = ()
    while size_of(one[0]) == size_of(other[0]):
        step = 1 if one[0] == other[0] else 0
        path = path + (step,)
        one = one[step]
        other = other[step]
    return path


def parting(one, other):
    """Return the parting of two plans, a pair (n, path), or None if they are alike."""
    first = plain(one)
    second = plain(other)
    if first == second:
        return None
    width, m, one_shape, other_shape = _unlike_rests(first, second)
    # A left part never has the last lump, so all of them have width times as many places
    # at n as at m: the path is the same.
    return (width * (m - 1) + 1, _unlike_path(one_shape, other_shape))


def judge_parting(one, other, value):
    """Return whether value, which may be anything, is the parting of two plans."""
    if not isinstance(value, tuple) or len(value) != 2:
        return False
    n, path = value
    if not is_number(n) or not is_path(path):
        return False
    return value == parting(one, other)

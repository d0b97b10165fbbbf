"""Plain forms: two plans are alike exactly if theirs are equal."""

from lumpplans.plans import Plan
from lumpplans.primes import primes, root_length


def _primes_of_all(tables):
    """Return the list of the primes of tables, one behind another."""
    found = []
    for table in tables:
        found.extend(primes(table))
    return found


def prime_parts(plan):
    """Return the list of the primes ahead of the end of a plan, and that of those of its round."""
    ahead = _primes_of_all(plan.tables())
    if isinstance(plan.end(), str):
        return ahead, []
    return ahead, _primes_of_all(plan.end())


def prime_list(plan, many):
    """Return the list of the first primes of the prime list, many or all that there are."""
    ahead, again = prime_parts(plan)
    found = ahead[:many]
    while len(again) > 0 and len(found) < many:
        found.extend(again[:many - len(found)])
    return found


def plain(plan):
    """Return the plain form of a plan."""
    ahead, again = prime_parts(plan)
    if isinstance(plan.end(), str):
        return Plan(ahead, plan.end())
    again = again[:root_length(again)]
    # A prime ahead that is the last one of the row may be told by the row, begun earlier.
    while len(ahead) > 0 and ahead[-1] == again[-1]:
        again = [ahead.pop()] + again[:-1]
    return Plan(ahead, tuple(again))


def are_alike(one, other):
    """Return whether two plans have the same shape at each number."""
    return plain(one) == plain(other)

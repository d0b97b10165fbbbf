"""The plans of the least cost that have the shapes of a list."""

from lumpplans.cuts import above
from lumpplans.plans import Plan
from lumpplans.pressing import shape
from lumpplans.seencuts import seen_cuts
from lumpplans.shapes import comb
from lumpplans.tables import table_size


def _tables_cost(tables):
    """Return the sum of the sizes of some tables."""
    return sum([table_size(table) for table in tables])


def plan_cost(plan):
    """Return the cost of a plan that has no round."""
    return _tables_cost(plan.tables())


def fits_shapes(plan, shapes):
    """Return whether a plan has the shapes of a list, of the sizes 1, 2 and so on."""
    return all([shape(plan, k + 1) == member for k, member in enumerate(shapes)])


def _end_of(shapes):
    """Return the end that alone has the shapes of a list, or None if neither has."""
    for end in ("left", "right"):
        if all([member == comb(k + 1, end) for k, member in enumerate(shapes)]):
            return end
    return None


def _shapes_above(shapes, b):
    """Return the list of the shapes above the stretches of a seen cut b of a list of shapes."""
    return [above(member, b) for member in shapes[::b]]


def cheapest_plan(shapes):
    """Return a cheapest plan that has the shapes of a list, of the sizes 1, 2 and so on."""
    # What is left behind some tables hangs on the product of their sizes alone.
    rests = {1: list(shapes)}
    cheapest = {1: ()}
    plans = []
    for width in range(1, 2 * len(shapes)):
        if width not in rests:
            continue
        rest = rests[width]
        end = _end_of(rest)
        if end is not None:
            plans.append(Plan(cheapest[width], end))
            continue
        for b in seen_cuts(rest):
            tables = cheapest[width] + (tuple(rest[1:b]),)
            if width * b not in rests or _tables_cost(tables) < _tables_cost(cheapest[width * b]):
                rests[width * b] = _shapes_above(rest, b)
                cheapest[width * b] = tables
    return min(plans, key=plan_cost)


def least_cost(shapes):
    """Return the cost of the cheapest plans of a list of shapes."""
    return plan_cost(cheapest_plan(shapes))

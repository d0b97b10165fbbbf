"""Partings of the plans of a list, and the groups into which they fall."""

from lumpplans.parting import least_parting_of_forms
from lumpplans.plainforms import plain


def parting_table(plans):
    """Return a list with the list of the least partings from all plans for each plan."""
    forms = [plain(plan) for plan in plans]
    table = [[None] * len(forms) for _ in forms]
    for k in range(len(forms)):
        for i in range(k):
            n = least_parting_of_forms(forms[i], forms[k])
            table[i][k] = n
            table[k][i] = n
    return table


def groups(plans, n):
    """Return the list of the groups of the plans up to n."""
    members = {}
    for k, row in enumerate(parting_table(plans)):
        same = [i for i in range(k + 1) if row[i] is None or row[i] > n]
        members.setdefault(same[0], []).append(k)
    return list(members.values())


def group_numbers(plans):
    """Return the ascending list of all n at which there are more groups than up to n - 1."""
    # Up to a least parting its two plans fall apart, and up to n - 1 they tell the same.
    return sorted({n for row in parting_table(plans) for n in row if n is not None})


def nearest(plan, plans):
    """Return the place of the first plan of a list that parts latest from a plan."""
    form = plain(plan)
    partings = [least_parting_of_forms(form, plain(other)) for other in plans]
    if None in partings:
        return partings.index(None)
    return partings.index(max(partings))

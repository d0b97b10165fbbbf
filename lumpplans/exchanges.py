"""Tables that commute or turn into one another, and exchanges in plans."""

from lumpplans.tablewords import letters, root


def commute(one, other):
    """Return whether two tables, glued in either sequence, are the same table."""
    one_root, _ = root(one)
    other_root, _ = root(other)
    return one_root == other_root


def turns_into(one, primes, other):
    """Return whether a list of primes turns the table one into the table other."""
    turning_word = list(primes)
    return letters(one) + turning_word == turning_word + letters(other)


def turning(one, other):
    """Return the list with the fewest primes that turns one into other, or None."""
    word = letters(one)
    wanted = letters(other)
    for many in range(len(word)):
        if word[many:] + word[:many] == wanted:
            return word[:many]
    return None


def exchanges(plan):
    """Return the ascending list of all k such that the tables k and k + 1 can be exchanged."""
    roots = []
    for table in plan.tables():
        table_root, _ = root(table)
        roots.append(table_root)
    return [k for k in range(len(roots) - 1) if roots[k] == roots[k + 1]]

"""Acts, and the states of a house from which they lead to other ones.

A state is a dict of the rows by their names, in their order, and is never changed. A row
is told as a tuple of its plan, the number of its lumps, and whether it is nailed.
"""

from lumpplans.digits import is_place
from lumpplans.keeping import change_cost, count_kept, switch
from lumpplans.plans import Plan
from lumpplans.words import is_number, is_word

MEMBERS = {"row": 3, "grow": 3, "change": 3, "plan": 3, "nail": 2, "free": 2, "drop": 2}
MOST_ROWS = 8
MOST_LUMPS = 200
NEW_ROW = (None, 0, False)


def _has_form(value):
    """Return whether value, which may be anything, begins as an act and is as long as it."""
    if not isinstance(value, tuple) or len(value) == 0 or not isinstance(value[0], str):
        return False
    return MEMBERS.get(value[0]) == len(value)


def has_row(state, name):
    """Return whether a state has a row of a name, which may be anything."""
    return is_word(name) and name in state


def _name_fits(state, kind, name):
    """Return whether an act of a kind may have a name, which may be anything."""
    if kind == "row":
        return is_word(name) and not has_row(state, name)
    return has_row(state, name)


def _member_word(kind, n, member):
    """Return the word for the last member of an act, or None if it may be done to n lumps."""
    if kind in ("row", "plan") and not isinstance(member, Plan):
        return "plan"
    if kind == "grow" and (not is_number(member) or member == 0):
        return "many"
    if kind == "change" and not is_place(n, member):
        return "place"
    return None


def _is_barred(kind, nailed):
    """Return whether an act of a kind cannot be done as a row is nailed, or is not."""
    if kind == "free":
        return not nailed
    return nailed and kind in ("plan", "drop", "nail")


def wrong_word(state, value):
    """Return why value, which may be anything, is no act at a state, or None if it is one."""
    if not _has_form(value):
        return "form"
    kind, name = value[:2]
    if not _name_fits(state, kind, name):
        return "name"
    _, n, nailed = state.get(name, NEW_ROW)
    word = _member_word(kind, n, value[-1])
    if word is not None:
        return word
    if _is_barred(kind, nailed):
        return "nail"
    if kind == "row" and len(state) == MOST_ROWS or kind == "grow" and n + value[2] > MOST_LUMPS:
        return "full"
    return None


def state_after(state, act):
    """Return the state to which an act leads from a state."""
    kind, name = act[:2]
    rows = dict(state)
    if kind == "drop":
        del rows[name]
        return rows
    plan, n, nailed = rows.get(name, NEW_ROW)
    if kind in ("row", "plan"):
        plan = act[2]
    elif kind == "grow":
        n = n + act[2]
    elif kind in ("nail", "free"):
        nailed = kind == "nail"
    rows[name] = (plan, n, nailed)
    return rows


def act_costs(state, act):
    """Return what an act at a state adds to what is paid, pressed anew and lost, as a triple."""
    kind, name = act[:2]
    plan, n, _ = state.get(name, NEW_ROW)
    if kind == "grow":
        return (count_kept(plan, n + act[2]) - count_kept(plan, n), 0, 0)
    if kind == "change":
        return (0, change_cost(plan, n, act[2]), 0)
    if kind == "plan":
        cost, loss = switch(plan, act[2], n)
        return (cost, 0, loss)
    if kind == "drop":
        return (0, 0, count_kept(plan, n))
    return (0, 0, 0)

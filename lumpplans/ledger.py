"""Ledgers: rows of things with a rule and a plan, and the worths of their kept lumps."""

from lumpplans.digits import check_place, is_lump
from lumpplans.keptparts import kept_middles, kept_on
from lumpplans.stores import store
from lumpplans.worths import lump_worths, pressed


class Ledger:
    """A row of things with a rule and a plan, and with the worths of its kept lumps."""

    def __init__(self, rule, plan):
        self._rule = rule
        self._plan = plan
        self._things = []
        self._worths = {}
        self._presses = 0

    def add(self, things):
        """Put a list of things to the end of the row; return the number of its places."""
        self._things = self._things + list(things)
        self._press_kept(kept_middles(self._plan, len(self._things)), self._worths)
        return len(self._things)

    def change(self, place, thing):
        """Exchange the thing at a place, which may be anything, for another one."""
        check_place(len(self._things), place)
        self._things[place] = thing
        known = {(i, j): worth for (i, j), worth in self._worths.items() if not i <= place < j}
        self._press_kept(kept_middles(self._plan, len(self._things)), known)

    def exchange(self, plan):
        """Give the row another Plan."""
        before = kept_middles(self._plan, len(self._things))
        after = kept_middles(plan, len(self._things))
        self._plan = plan
        self._press_kept(after, {lump: self._worths[lump] for lump in kept_on(before, after)})

    def plan(self):
        """Return the Plan."""
        return self._plan

    def things(self):
        """Return the list of the things."""
        return list(self._things)

    def worth(self):
        """Return the worth of the whole, or None if the row is empty."""
        return self.worth_of(0, len(self._things))

    def worth_of(self, i, j):
        """Return the worth of the lump (i, j), or None if i and j, which may be anything, are none."""
        if not is_lump(self._plan, len(self._things), i, j):
            return None
        return dict(lump_worths(self._rule, self._plan, self._things))[(i, j)]

    def kept(self):
        """Return the list of the pairs (lump, worth) of the kept lumps, in order."""
        return list(self._worths.items())

    def presses(self):
        """Return the number of the pressings for kept lumps so far."""
        return self._presses

    def whole_presses(self):
        """Return how many pressings more are needed for the worth of the whole."""
        if len(self._things) == 0:
            return 0
        return len(store(self._plan, len(self._things))) - 1

    def twin(self):
        """Return a ledger that is like this one and goes its own way."""
        other = Ledger(self._rule, self._plan)
        other._things = list(self._things)
        other._worths = {lump: self._worths[lump] for lump in self._worths}
        other._presses = self._presses
        return other

    def _press_kept(self, middles, known):
        """Press the kept lumps, told as kept_middles does, but for those whose worths are known."""
        worths = {(k, k + 1): thing for k, thing in enumerate(self._things)}
        # Gone through from behind, the parts of a lump come ahead of it.
        for i, j in reversed(list(middles)):
            if (i, j) in known:
                worths[(i, j)] = known[(i, j)]
            else:
                middle = middles[(i, j)]
                worths[(i, j)] = pressed(self._rule, worths[(i, middle)], worths[(middle, j)])
                self._presses += 1
        self._worths = {lump: worths[lump] for lump in middles}

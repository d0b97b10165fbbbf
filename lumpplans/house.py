"""Houses: rows that grow under several plans, with acts that are undone and done again."""

from lumpplans.acts import act_costs, has_row, state_after, wrong_word
from lumpplans.errors import BadAct, NothingDone, UnknownName
from lumpplans.keeping import count_kept, kept_lumps
from lumpplans.papers import beginning_paper
from lumpplans.plainforms import are_alike
from lumpplans.stores import store
from lumpplans.words import is_word

MOST_DONE = 120


class House:
    """Rows with names, the acts that led to them, and marks."""

    def __init__(self):
        # The done acts are followed by the undone ones. Ahead of each act and behind the
        # last one stand a state and the sums of what was paid, pressed anew and lost.
        self._acts = []
        self._states = [{}]
        self._sums = [(0, 0, 0)]
        self._many_done = 0
        self._marks = {}

    def act_word(self, value):
        """Return None if value, which may be anything, can be done now, and else the word that tells why not."""
        word = wrong_word(self._state(), value)
        if word is None and self._many_done == MOST_DONE:
            return "full"
        return word

    def do(self, value):
        """Do an act, which may be anything; return the number of done acts."""
        word = self.act_word(value)
        if word is not None:
            raise BadAct(word)
        many = self._many_done
        state = self._state()
        sums = [one + more for one, more in zip(self._sums[many], act_costs(state, value))]
        self._acts = self._acts[:many] + [value]
        self._states = self._states[:many + 1] + [state_after(state, value)]
        self._sums = self._sums[:many + 1] + [tuple(sums)]
        self._many_done = many + 1
        return self._many_done

    def undo(self):
        """Undo the last done act; return the number of done acts."""
        if self._many_done == 0:
            raise NothingDone()
        self._many_done -= 1
        return self._many_done

    def redo(self):
        """Do the first undone act again; return the number of done acts."""
        if self._many_done == len(self._acts):
            raise NothingDone()
        self._many_done += 1
        return self._many_done

    def done(self):
        """Return the list of the done acts in order."""
        return self._acts[:self._many_done]

    def undone(self):
        """Return the list of the undone acts, the first one first."""
        return self._acts[self._many_done:]

    def rows(self):
        """Return the list of the names of the rows, in order."""
        return list(self._state())

    def plan(self, name):
        """Return the plan of the row of a name, which may be anything."""
        plan, _, _ = self._row(name)
        return plan

    def size(self, name):
        """Return the number of the lumps of the row of a name, which may be anything."""
        _, n, _ = self._row(name)
        return n

    def is_nailed(self, name):
        """Return whether the row of a name, which may be anything, is nailed."""
        _, _, nailed = self._row(name)
        return nailed

    def kept(self, name):
        """Return the list of the kept lumps of the row of a name, which may be anything, in order."""
        plan, n, _ = self._row(name)
        return kept_lumps(plan, n)

    def store(self, name):
        """Return the list of the lumps of the store of the row of a name, which may be anything."""
        plan, n, _ = self._row(name)
        return [] if n == 0 else store(plan, n)

    def kept_count(self):
        """Return the number of the kept lumps of all rows."""
        return sum([count_kept(plan, n) for plan, n, _ in self._state().values()])

    def paid(self):
        """Return the sum of the costs of the done acts that let a row grow or gave it a plan."""
        paid, _, _ = self._sums[self._many_done]
        return paid

    def anew(self):
        """Return the sum of the costs of the done acts that exchanged a thing."""
        _, anew, _ = self._sums[self._many_done]
        return anew

    def lost(self):
        """Return the sum of the losses of the done acts."""
        _, _, lost = self._sums[self._many_done]
        return lost

    def keep(self, mark, name):
        """Keep the row of a name, which may be anything, under a mark, as it is now."""
        plan, n, _ = self._row(name)
        self._marks[mark] = (name, plan, n)

    def marks(self):
        """Return the list of the names of the marks, ascending."""
        return sorted(self._marks)

    def since(self, mark):
        """Return the paper since a mark, which may be anything, a list of pairs, or None."""
        if not is_word(mark) or mark not in self._marks:
            raise UnknownName(mark)
        name, plan_then, n_then = self._marks[mark]
        if not has_row(self._state(), name):
            return None
        plan, n, _ = self._row(name)
        if not 1 <= n_then < n or not are_alike(plan_then, plan):
            return None
        return beginning_paper(plan, n_then, n)

    def twin(self):
        """Return a house that is like this one in everything and goes its own way."""
        other = House()
        other._acts = list(self._acts)
        other._states = list(self._states)
        other._sums = list(self._sums)
        other._many_done = self._many_done
        other._marks = dict(self._marks)
        return other

    def _state(self):
        """Return the state behind the done acts."""
        return self._states[self._many_done]

    def _row(self, name):
        """Return the row of a name, which may be anything."""
        if not has_row(self._state(), name):
            raise UnknownName(name)
        return self._state()[name]

"""Consoles: they read lines, do what these ask for to a house, and answer."""

from lumpplans.errors import BadAct, BadPlan, BadText, NothingDone, UnknownName
from lumpplans.keeping import switch
from lumpplans.plans import Plan
from lumpplans.plantexts import take_plan
from lumpplans.textreader import TextReader

# What follows the first word of a line.
FORMS = {
    "row": ("word", "plan"), "grow": ("word", "number"), "change": ("word", "number"), "plan": ("word", "plan"),
    "nail": ("word",), "free": ("word",), "drop": ("word",), "undo": (), "redo": (), "keep": ("word", "word"),
    "rows": (), "size": ("word",), "store": ("word",), "kept": (), "paid": (), "anew": (), "lost": (),
    "cost": ("word", "plan"), "since": ("word",),
}
ACTS = ("row", "grow", "change", "plan", "nail", "free", "drop")


def _take_member(reader, sort):
    """Return what a reader reads next: a word, a number, or the tables and the end of a plan."""
    if sort == "plan":
        return take_plan(reader)
    lexeme = reader.take_sort(sort)
    return int(lexeme) if sort == "number" else lexeme


def _plan_or_none(tables, end):
    """Return the Plan with these tables and this end, or None if an entry has a wrong size."""
    try:
        return Plan(tables, end)
    except BadPlan:
        return None


def read_line(line):
    """Return the first word of a line and the list of its other members.

    A plan of which an entry has a wrong size is told by None.
    """
    reader = TextReader(line)
    word = reader.take_one_of(list(FORMS))
    members = [_take_member(reader, sort) for sort in FORMS[word]]
    reader.finish()
    if "plan" in FORMS[word]:
        tables, end = members[-1]
        members[-1] = _plan_or_none(tables, end)
    return word, members


def pairs_text(pairs):
    """Return the text of a list of pairs."""
    return ", ".join([f"{i}-{j}" for i, j in pairs])


class Console:
    """A console for a house, which it shares with others."""

    def __init__(self, house):
        self._house = house

    def answer(self, line):
        """Return the answer to a line."""
        try:
            word, members = read_line(line)
            if word in ACTS:
                return str(self._house.do((word, *members)))
            return self._reply(word, members)
        except BadText as wrong:
            return f"no BadText {wrong.place}"
        except BadAct as refused:
            return f"no BadAct {refused.word}"
        except NothingDone:
            return "no NothingDone"
        except UnknownName:
            return "no UnknownName"

    def _reply(self, word, members):
        """Return the answer to a line that does no act, told by its first word and its other members."""
        if word == "cost":
            return self._cost(members[0], members[1])
        if word == "since":
            paper = self._house.since(members[0])
            return "none" if paper is None else pairs_text(paper)
        if word == "keep":
            self._house.keep(members[0], members[1])
            return str(len(self._house.marks()))
        if word == "size":
            return str(self._house.size(members[0]))
        if word == "store":
            return pairs_text(self._house.store(members[0]))
        if word == "rows":
            return ", ".join(self._house.rows())
        return str(self._number(word))

    def _number(self, word):
        """Return the number that a line of one word asks for."""
        if word == "undo":
            return self._house.undo()
        if word == "redo":
            return self._house.redo()
        if word == "kept":
            return self._house.kept_count()
        if word == "paid":
            return self._house.paid()
        if word == "anew":
            return self._house.anew()
        return self._house.lost()

    def _cost(self, name, plan):
        """Return what it would cost and lose to give a plan, or None, to the row of a name."""
        before = self._house.plan(name)
        if plan is None:
            return "none"
        cost, loss = switch(before, plan, self._house.size(name))
        return f"{cost} {loss}"

"""Plans: tables that press a row stage by stage, and an end that presses the rest."""

from lumpplans.errors import BadPlan
from lumpplans.tables import wrong_table_path


def _first_wrong_table(tables):
    """Return the path of the first wrong part of a sequence of tables, or None."""
    for k, member in enumerate(tables):
        path = wrong_table_path(member)
        if path is not None:
            return (k,) + path
    return None


def wrong_plan_path(tables, end):
    """Return the path of the first wrong part of what should make a plan, or None."""
    if not isinstance(tables, (list, tuple)):
        return (0,)
    path = _first_wrong_table(tables)
    if path is not None:
        return (0,) + path
    if end == "left" or end == "right":
        return None
    if not isinstance(end, tuple) or len(end) == 0:
        return (1,)
    path = _first_wrong_table(end)
    if path is not None:
        return (1,) + path
    return None


class Plan:
    """A plan with a tuple of tables and an end: "left", "right" or a round."""

    def __init__(self, tables, end):
        path = wrong_plan_path(tables, end)
        if path is not None:
            raise BadPlan(path)
        self._tables = tuple(tables)
        self._end = end

    def __eq__(self, other):
        return isinstance(other, Plan) and self._tables == other._tables and self._end == other._end

    def tables(self):
        """Return the tuple of the tables ahead of the end."""
        return self._tables

    def end(self):
        """Return "left", "right" or the round."""
        return self._end

    def stage(self, k):
        """Return the table of the stage number k, or None if there is none."""
        if k < len(self._tables):
            return self._tables[k]
        if isinstance(self._end, str):
            return None
        return self._end[(k - len(self._tables)) % len(self._end)]

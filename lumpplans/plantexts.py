"""The texts of shapes, tables and plans, written and read."""

from lumpplans.plans import Plan
from lumpplans.tables import check_table
from lumpplans.textreader import TextReader


def shape_text(shape):
    """Return the text of a shape."""
    if shape == ():
        return "o"
    return f"({shape_text(shape[0])} {shape_text(shape[1])})"


def table_text(table):
    """Return the text of a table."""
    entries = [f"{shape_text(shape)};\n" for shape in table]
    return "table {\n" + "".join(entries) + "}\n"


def _end_text(end):
    """Return the text of the end of a plan."""
    if isinstance(end, str):
        return f"{end};\n"
    return "round {\n" + "".join([table_text(table) for table in end]) + "}\n"


def plan_text(plan):
    """Return the text of a plan."""
    tables = [table_text(table) for table in plan.tables()]
    return "plan {\n" + "".join(tables) + _end_text(plan.end()) + "}\n"


def take_shape(reader):
    """Return the shape that a reader reads next."""
    if reader.sees("o"):
        reader.take("o")
        return ()
    reader.take("(")
    left = take_shape(reader)
    right = take_shape(reader)
    reader.take(")")
    return (left, right)


def _take_entry(reader):
    """Return the shape of the entry that a reader reads next."""
    shape = take_shape(reader)
    reader.take(";")
    return shape


def take_table(reader):
    """Return the entries that a reader reads next, of whatever sizes, as a tuple."""
    reader.take("table")
    reader.take("{")
    entries = [_take_entry(reader)]
    while not reader.sees("}"):
        entries.append(_take_entry(reader))
    reader.take("}")
    return tuple(entries)


def _take_end(reader):
    """Return the end of a plan that a reader reads next."""
    for word in ("left", "right"):
        if reader.sees(word):
            reader.take(word)
            reader.take(";")
            return word
    reader.take("round")
    reader.take("{")
    tables = [take_table(reader)]
    while not reader.sees("}"):
        tables.append(take_table(reader))
    reader.take("}")
    return tuple(tables)


def take_plan(reader):
    """Return the pair of the tables and the end that a reader reads next.

    Their entries may be of whatever sizes: a wrong one is told by class Plan, when
    the whole text is known to have no wrong place.
    """
    reader.take("plan")
    reader.take("{")
    tables = []
    while reader.sees("table"):
        tables.append(take_table(reader))
    end = _take_end(reader)
    reader.take("}")
    return tables, end


def read_shape(text):
    """Return the shape that a text tells."""
    reader = TextReader(text)
    shape = take_shape(reader)
    reader.finish()
    return shape


def read_table(text):
    """Return the table that a text tells."""
    reader = TextReader(text)
    table = take_table(reader)
    reader.finish()
    check_table(table)
    return table


def read_plan(text):
    """Return the Plan that a text tells."""
    reader = TextReader(text)
    tables, end = take_plan(reader)
    reader.finish()
    return Plan(tables, end)

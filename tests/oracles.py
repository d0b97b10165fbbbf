"""Slow and plain ways to the same answers, over texts of shapes such as ((o o) o)."""

import re

SIGN = re.compile(r"[a-z][a-z0-9]*|0|[1-9][0-9]*|[(){},;]")

FORMS = {
    "SHAPE": {"o": ["o"], "(": ["(", "SHAPE", "SHAPE", ")"]},
    "ENTRY": {"o": ["SHAPE", ";"], "(": ["SHAPE", ";"]},
    "ENTRIES": {"o": ["ENTRY", "ENTRIES"], "(": ["ENTRY", "ENTRIES"], "}": []},
    "TABLE": {"table": ["table", "{", "ENTRY", "ENTRIES", "}"]},
    "TABLES": {"table": ["TABLE", "TABLES"], "left": [], "right": [], "round": []},
    "MORE": {"table": ["TABLE", "MORE"], "}": []},
    "END": {
        "left": ["left", ";"], "right": ["right", ";"],
        "round": ["round", "{", "TABLE", "MORE", "}"],
    },
    "PLAN": {"plan": ["plan", "{", "TABLES", "END", "}"]},
    "LINE": {
        "row": ["row", "NAME", "PLAN"], "grow": ["grow", "NAME", "NUMBER"], "change": ["change", "NAME", "NUMBER"],
        "plan": ["plan", "NAME", "PLAN"], "nail": ["nail", "NAME"], "free": ["free", "NAME"], "drop": ["drop", "NAME"],
        "undo": ["undo"], "redo": ["redo"], "keep": ["keep", "NAME", "NAME"], "rows": ["rows"], "size": ["size", "NAME"],
        "store": ["store", "NAME"], "kept": ["kept"], "paid": ["paid"], "anew": ["anew"], "lost": ["lost"],
        "cost": ["cost", "NAME", "PLAN"], "since": ["since", "NAME"],
    },
}


def text_of(shape):
    """Return the text of a shape."""
    return repr(shape).replace("()", "o").replace(",", "")


def shape_of_text(text):
    """Return the shape of a text."""
    return eval(text.replace(" ", ", ").replace("o", "()"))


def fill(text, parts):
    """Return a text with its letters o exchanged for the parts, in order."""
    pieces = text.split("o")
    return "".join(piece + part for piece, part in zip(pieces, parts + [""]))


def entry_text(table, m):
    return "o" if m == 1 else text_of(table[m - 2])


def press(table, row):
    """Return the row of texts that comes of a row of texts."""
    size = len(table) + 1
    stretches = [row[at:at + size] for at in range(0, len(row), size)]
    return [fill(entry_text(table, len(stretch)), stretch) for stretch in stretches]


def glue(s, t):
    """Return the table glued of s and t."""
    size = (len(s) + 1) * (len(t) + 1)
    made = []
    for m in range(2, size + 1):
        (whole,) = press(t, press(s, ["o"] * m))
        made.append(shape_of_text(whole))
    return tuple(made)


def ranges(text):
    """Return a dict of the lumps of a text, each with the pair where its text begins and ends."""
    found = {}
    begun = []
    place = 0
    for at, sign in enumerate(text):
        if sign == "o":
            found[(place, place + 1)] = (at, at + 1)
            place += 1
        elif sign == "(":
            begun.append((place, at))
        elif sign == ")":
            first, start = begun.pop()
            found[(first, place)] = (start, at + 1)
    return found


def pairs_of(m, b):
    """Return the stretches of b of m lumps, by what is in them."""
    groups = {}
    for place in range(m):
        groups.setdefault(place // b, []).append(place)
    return [(group[0], group[-1] + 1) for group in groups.values()]


def fault(table, b, m, pair):
    """Return "lump" or "shape" if a stretch of entry m is not right, and otherwise None."""
    text = entry_text(table, m)
    found = ranges(text)
    if pair not in found:
        return "lump"
    start, end = found[pair]
    if text[start:end] != entry_text(table, pair[1] - pair[0]):
        return "shape"
    return None


def above(table, b, m):
    """Return the text of entry m with each stretch as one lump."""
    text = entry_text(table, m)
    found = ranges(text)
    for pair in reversed(pairs_of(m, b)):
        start, end = found[pair]
        text = text[:start] + "o" + text[end:]
    return text


def counters(table, b):
    """Return the list of all counters for b of a table."""
    size = len(table) + 1
    found = [("size",)] if size % b else []
    right = []
    for m in range(2, size + 1):
        faults = [fault(table, b, m, pair) for pair in pairs_of(m, b)]
        found.extend((kind, m, k) for k, kind in enumerate(faults) if kind is not None)
        if not any(faults):
            right.append(m)
    for m in right:
        for n in right:
            if m < n and len(pairs_of(m, b)) == len(pairs_of(n, b)):
                if above(table, b, m) != above(table, b, n):
                    found.append(("above", m, n))
    return found


def behind(table, b):
    """Return the table behind the cut b, or None if gluing shows that b is no cut."""
    size = len(table) + 1
    if not 2 <= b < size or size % b:
        return None
    whole = entry_text(table, b)
    texts = [entry_text(table, b * m).replace(whole, "o") for m in range(2, size // b + 1)]
    if any(text.count("o") != m for m, text in enumerate(texts, start=2)):
        return None
    rest = tuple(shape_of_text(text) for text in texts)
    return rest if glue(table[:b - 1], rest) == table else None


def rows(plan, n):
    """Return the rows of texts of a plan at n: at first, and behind each stage."""
    row = ["o"] * n
    made = [row]
    stage = 0
    tables = plan.tables()
    end = plan.end()
    while len(row) > 1:
        if stage < len(tables):
            table = tables[stage]
        elif isinstance(end, tuple):
            table = end[(stage - len(tables)) % len(end)]
        else:
            break
        row = press(table, row)
        made.append(row)
        stage += 1
    return made


def plan_shape(plan, n):
    """Return the text of the shape of a plan at n."""
    row = rows(plan, n)[-1]
    while len(row) > 1:
        if plan.end() == "left":
            row = ["(" + row[0] + " " + row[1] + ")"] + row[2:]
        else:
            row = row[:-2] + ["(" + row[-2] + " " + row[-1] + ")"]
    return row[0]


def stands_for(sign, lexeme):
    """Return whether a sign of a form stands for a lexeme."""
    if sign == "NAME":
        return lexeme[0].isalpha()
    if sign == "NUMBER":
        return lexeme[0].isdigit()
    return sign == lexeme


def wrong_place(form, text):
    """Return the first wrong place of a text, or None if it is of the form."""
    wanted = [form]
    at = 0
    while True:
        while at < len(text) and text[at] in " \n":
            at += 1
        if at == len(text):
            return at if wanted else None
        found = SIGN.match(text, at)
        if found is None or found.group()[0].isalpha() and len(found.group()) > 12:
            return at
        lexeme = found.group()
        while wanted and wanted[-1] in FORMS:
            choices = FORMS[wanted.pop()]
            if lexeme not in choices:
                return at
            wanted.extend(reversed(choices[lexeme]))
        if not wanted or not stands_for(wanted.pop(), lexeme):
            return at
        at = found.end()

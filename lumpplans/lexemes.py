"""Lexemes: the words, numbers and signs of which texts consist."""

from lumpplans.errors import BadText
from lumpplans.words import DIGITS, LETTERS, LONGEST_WORD

SIGNS = "(){},;"
GAPS = " \n"


def _run_end(text, place, characters):
    """Return the first place from place on that has none of these characters."""
    while place < len(text) and text[place] in characters:
        place += 1
    return place


def _lexeme_at(text, place):
    """Return the lexeme that begins at a place, as lexemes tells it, or None."""
    first = text[place]
    if first in LETTERS:
        end = _run_end(text, place, LETTERS + DIGITS)
        if end - place > LONGEST_WORD:
            return None
        return ("word", text[place:end], place)
    if first == "0":
        return ("number", first, place)
    if first in DIGITS:
        return ("number", text[place:_run_end(text, place, DIGITS)], place)
    if first in SIGNS:
        return ("sign", first, place)
    return None


def scan(text):
    """Return the lexemes up to the first character that begins none, and its place.

    The place is the length of the text if there is no such character.
    """
    found = []
    place = _run_end(text, 0, GAPS)
    while place < len(text):
        lexeme = _lexeme_at(text, place)
        if lexeme is None:
            return found, place
        found.append(lexeme)
        place = _run_end(text, place + len(lexeme[1]), GAPS)
    return found, len(text)


def lexemes(text):
    """Return the list of the lexemes of a text as tuples (sort, lexeme, place)."""
    found, stop = scan(text)
    if stop < len(text):
        raise BadText(stop)
    return found

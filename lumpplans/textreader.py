"""Reads the lexemes of a text one after another."""

from lumpplans.errors import BadText
from lumpplans.lexemes import scan


class TextReader:
    """A text and how far it has been read.

    Where the first wrong place of the text is met, BadText tells it. That is so only
    if each lexeme is asked for as soon as the form that is read leaves no other one.
    """

    def __init__(self, text):
        found, stop = scan(text)
        self._lexemes = found
        self._stop = stop
        self._length = len(text)
        self._at = 0

    def sees(self, wanted):
        """Return whether the next lexeme is the wanted one."""
        return self._at < len(self._lexemes) and self._lexemes[self._at][1] == wanted

    def take(self, wanted):
        """Go on behind the next lexeme, which must be the wanted one."""
        if not self.sees(wanted):
            raise BadText(self._place())
        self._at += 1

    def take_one_of(self, words):
        """Go on behind the next lexeme, which must be one of some words; return it."""
        for word in words:
            if self.sees(word):
                self._at += 1
                return word
        raise BadText(self._place())

    def take_sort(self, sort):
        """Go on behind the next lexeme, which must be of a sort, such as "word"; return it."""
        if self._at == len(self._lexemes) or self._lexemes[self._at][0] != sort:
            raise BadText(self._place())
        self._at += 1
        return self._lexemes[self._at - 1][1]

    def finish(self):
        """Raise BadText(place) if the text goes on."""
        if self._place() < self._length:
            raise BadText(self._place())

    def _place(self):
        """Return where the next lexeme is, or where the lexemes stop."""
        if self._at < len(self._lexemes):
            return self._lexemes[self._at][2]
        return self._stop

"""Words and numbers, and the characters that they are made of."""

LETTERS = "abcdefghijklmnopqrstuvwxyz"
DIGITS = "0123456789"
LONGEST_WORD = 12


def is_word(value):
    """Return whether value, which may be anything, is a word."""
    if not isinstance(value, str) or not 1 <= len(value) <= LONGEST_WORD:
        return False
    if value[0] not in LETTERS:
        return False
    return all([character in LETTERS or character in DIGITS for character in value])


def is_integer(value):
    """Return whether value, which may be anything, is an integer."""
    return isinstance(value, int) and not isinstance(value, bool)


def is_number(value):
    """Return whether value, which may be anything, is an integer of at least 0."""
    return is_integer(value) and value >= 0

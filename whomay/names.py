"""What the other files ask of names, and of rows of them."""

from whomay.errors import BadCount, NoName, Twice

LETTERS = "abcdefghijklmnopqrstuvwxyz"
FIGURES = "0123456789"
LONGEST_NAME = 12


def is_name(text):
    """True where the text is a name."""
    if len(text) < 1 or len(text) > LONGEST_NAME:
        return False
    if text[0] not in LETTERS:
        return False
    return all([sign in LETTERS or sign in FIGURES for sign in text])


def refuse_no_name(texts):
    """Refuse the first of the texts that is no name."""
    for text in texts:
        if not is_name(text):
            raise NoName(text)


def first_twice(row):
    """The place of the first in the row that stands ahead of itself already, or None."""
    for place, part in enumerate(row):
        if part in row[:place]:
            return place
    return None


def refuse_twice(names):
    """Refuse the first of the names that stands ahead of itself already."""
    place = first_twice(names)
    if place is not None:
        raise Twice(names[place])


def refuse_count(what, count, least, most):
    """Refuse a count that is not from the least to the most."""
    if count < least or count > most:
        raise BadCount(what, count)

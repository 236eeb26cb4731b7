"""What several modules need of numbers, of tuples, of order and of texts."""

from onefolk.errors import NoText

FIGURES = "0123456789"
MOST_FIGURES = 6


def is_whole(thing):
    """Whether a thing of any kind is a whole number; a truth is none."""
    return isinstance(thing, int) and not isinstance(thing, bool)


def is_tuple(thing, many):
    """Whether a thing of any kind is a tuple of so many parts."""
    return isinstance(thing, tuple) and len(thing) == many


def is_worded(thing, word, many):
    """Whether a thing of any kind is a tuple of so many parts, this word the first."""
    return is_tuple(thing, many) and isinstance(thing[0], str) and thing[0] == word


def number_in(text):
    """The number that a text is written as, or None."""
    if not 1 <= len(text) <= MOST_FIGURES or not all([sign in FIGURES for sign in text]):
        return None
    if text[0] == "0" and text != "0":
        return None
    return int(text)


def are_rising(things):
    """Whether each thing is less than the next one, so that no two are alike."""
    return all([things[at] < things[at + 1] for at in range(len(things) - 1)])


def lines_in(text):
    """The rows of a text, which may be a thing of any kind; the empty text has none."""
    if not isinstance(text, str):
        raise NoText(0)
    return text.split("\n") if text else []

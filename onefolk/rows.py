"""Names, words, rows and books."""

from onefolk.basics import FIGURES, are_rising, is_tuple
from onefolk.errors import NoName

LETTERS = "abcdefghijklmnopqrstuvwxyz"
LONGEST_NAME = 8
LONGEST_WORD = 12


def is_name(thing):
    """Whether a thing of any kind is a name."""
    return is_text_of(thing, LETTERS, LONGEST_NAME)


def is_word(thing):
    """Whether a thing of any kind is a word."""
    return is_text_of(thing, LETTERS + FIGURES, LONGEST_WORD)


def is_text_of(thing, signs, longest):
    """Whether a thing is a text of one sign or more, at most so many, each among the signs."""
    return isinstance(thing, str) and 1 <= len(thing) <= longest and all([sign in signs for sign in thing])


def is_row(thing):
    """Whether a thing of any kind is a row."""
    return is_tuple(thing, 2) and is_name(thing[0]) and are_words(thing[1])


def are_words(thing):
    """Whether a thing is the WORDS of a row."""
    if not isinstance(thing, tuple) or not all([is_field_word(pair) for pair in thing]):
        return False
    return are_rising([field for field, word in thing])


def is_field_word(thing):
    """Whether a thing is a pair of a field and its word."""
    return is_tuple(thing, 2) and is_name(thing[0]) and is_word(thing[1])


def is_book(thing):
    """Whether a thing of any kind is a book."""
    if not isinstance(thing, tuple) or not all([is_row(row) for row in thing]):
        return False
    return len({row[0] for row in thing}) == len(thing)


def word_of(row, field):
    """The word that a row has in a field, or None."""
    for own_field, word in row[1]:
        if own_field == field:
            return word
    return None


def books_together(book, other):
    """The book with the other one behind it."""
    names = {row[0] for row in book}
    for row in other:
        if row[0] in names:
            raise NoName(row[0])
    return book + other


def book_without(book, name):
    """The book without the row of a name, which may be a thing of any kind."""
    if not is_name(name) or name not in [row[0] for row in book]:
        raise NoName(name)
    return tuple([row for row in book if row[0] != name])

"""One view of each person, with the rows that each word came from."""

from onefolk.errors import NoName
from onefolk.rows import word_of


def first_word(words):
    """The word of the first row."""
    return words[0]


def last_word(words):
    """The word of the last row."""
    return words[-1]


def most_word(words):
    """The word that most rows have, of several the one that stands first."""
    return max(words, key=lambda word: words.count(word))


def longest_word(words):
    """The longest word, of several the least."""
    return min(words, key=lambda word: (-len(word), word))


def least_word(words):
    """The least word as a text."""
    return min(words)


def greatest_word(words):
    """The greatest word as a text."""
    return max(words)


HOWS = {
    "first": first_word,
    "last": last_word,
    "most": most_word,
    "longest": longest_word,
    "least": least_word,
    "greatest": greatest_word,
}


def view_of(book, view, names):
    """The view of a set of names: for each field that a row of it has, its word and the rows with that word."""
    rows = [row_of(book, name) for name in names]
    return [seen_of(rows, field, how) for field, how in view if words_in(rows, field)]


def views_of(book, view, sets):
    """The view of each set."""
    return [view_of(book, view, names) for names in sets]


def row_of(book, name):
    """The row of a name."""
    for row in book:
        if row[0] == name:
            return row
    raise NoName(name)


def words_in(rows, field):
    """The words that rows have in a field, in the rows' order."""
    return [word for word in [word_of(row, field) for row in rows] if word is not None]


def seen_of(rows, field, how):
    """(FIELD, WORD, ROWS) of a field that a row has."""
    choose = HOWS[how]
    chosen = choose(words_in(rows, field))
    return (field, chosen, tuple([row[0] for row in rows if word_of(row, field) == chosen]))

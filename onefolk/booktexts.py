"""Rows and books as texts."""

from onefolk.basics import lines_in
from onefolk.errors import NoText
from onefolk.rows import is_row


def show_row(row):
    """The text of a row."""
    name, words = row
    if not words:
        return f"{name}:"
    shown = ", ".join([f"{field} {word}" for field, word in words])
    return f"{name}: {shown}"


def read_row(text):
    """The row of a text, which may be a thing of any kind."""
    row = row_in(text) if isinstance(text, str) else None
    if row is None:
        raise NoText(0)
    return row


def row_in(text):
    """The row that a text is written as, or None."""
    name, colon, rest = text.partition(":")
    if not colon:
        return None
    if not rest:
        words = ()
    elif rest[0] == " ":
        words = tuple([tuple(pair.split(" ")) for pair in rest[1:].split(", ")])
    else:
        return None
    # The splits above only part the text: what stands between, is_row judges.
    row = (name, words)
    return row if is_row(row) else None


def show_book(book):
    """The text of a book."""
    return "\n".join([show_row(row) for row in book])


def read_book(text):
    """The book of a text, which may be a thing of any kind."""
    rows = []
    names = set()
    for at, line in enumerate(lines_in(text)):
        row = row_in(line)
        if row is None or row[0] in names:
            raise NoText(at)
        names.add(row[0])
        rows.append(row)
    return tuple(rows)

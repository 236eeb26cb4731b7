"""Rows of words for the desk, read."""

from onefolk.basics import number_in
from onefolk.booktexts import row_in
from onefolk.errors import NoRow
from onefolk.groundtexts import reason_in
from onefolk.rows import is_name

# What stands behind a word, word by word.
SHAPES = {
    "drop": ("name",),
    "tell": ("name", "name", "number"),
    "untell": ("name", "name", "number"),
    "bar": ("name", "name"),
    "unbar": ("name", "name"),
    "undo": (),
    "parts": (),
    "joining": (),
    "best": (),
    "why": ("name", "name"),
    "book": (),
    "ground": (),
    "paper": ("paper",),
}

# What stands behind a word as one text, whatever blanks are in it.
WHOLES = {"put": "row", "strike": "reason", "unstrike": "reason", "hangs": "reason", "fate": "reason"}

PAPERS = ("best", "joining")


def read_words(row):
    """The first word of a row, which may be a thing of any kind, and the list of the things behind it."""
    things = things_in(row) if isinstance(row, str) else None
    if things is None or None in things:
        raise NoRow("the desk doesn't know this row")
    return (row.split(" ")[0], things)


def things_in(row):
    """The things behind the first word, each None where it isn't written as it should be; None of another row."""
    word, blank, rest = row.partition(" ")
    if word in WHOLES:
        return [thing_in(WHOLES[word], rest)]
    texts = row.split(" ")[1:]
    if word not in SHAPES or len(texts) != len(SHAPES[word]):
        return None
    return [thing_in(sort, text) for sort, text in zip(SHAPES[word], texts)]


def thing_in(sort, text):
    """The thing of a sort that a text is written as, or None."""
    if sort == "name":
        return text if is_name(text) else None
    if sort == "number":
        return number_in(text)
    if sort == "row":
        return row_in(text)
    if sort == "reason":
        return reason_in(text)
    return text if text in PAPERS else None

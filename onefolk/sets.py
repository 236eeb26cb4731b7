"""Sets of names, and tuples of them, as joinings and worlds are."""

from onefolk.basics import are_rising
from onefolk.grounds import are_names


def is_set(thing):
    """Whether a thing of any kind is a rising tuple of one name or more."""
    return are_names(thing) and len(thing) > 0


def are_sets(thing):
    """Whether a thing of any kind is a tuple of sets, by their first names, no name in two."""
    if not isinstance(thing, tuple) or not all([is_set(own) for own in thing]):
        return False
    return are_rising([own[0] for own in thing]) and are_rising(names_in(thing))


def names_in(sets):
    """The names of a joining, rising."""
    return sorted([name for own in sets for name in own])

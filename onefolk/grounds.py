"""Reasons, bars and grounds."""

from onefolk.basics import are_rising, is_tuple, is_whole
from onefolk.rows import is_name
from onefolk.rules import is_weight, tells


def is_reason(thing):
    """Whether a thing of any kind is a reason."""
    return is_tuple(thing, 4) and is_weight(thing[0]) and is_bar(thing[1:])


def is_bar(thing):
    """Whether a thing of any kind is a bar."""
    if not is_tuple(thing, 3):
        return False
    one, other, number = thing
    return is_name(one) and is_name(other) and one < other and is_whole(number) and number >= 0


def is_ground(thing):
    """Whether a thing of any kind is a ground."""
    if not is_tuple(thing, 3):
        return False
    names, reasons, bars = thing
    return are_names(names) and are_reasons(reasons, names) and are_bars(bars, names)


def are_names(thing):
    """Whether a thing of any kind is a rising tuple of names."""
    return isinstance(thing, tuple) and all([is_name(name) for name in thing]) and are_rising(thing)


def are_reasons(thing, names):
    """Whether a thing of any kind is a tuple, in order, of unlike reasons of the names."""
    if not isinstance(thing, tuple) or not all([is_reason(reason) for reason in thing]):
        return False
    if not all([reason[1] in names and reason[2] in names for reason in thing]):
        return False
    return are_rising([place_of(reason) for reason in thing])


def are_bars(thing, names):
    """Whether a thing of any kind is a tuple, in order, of unlike bars of the names."""
    if not isinstance(thing, tuple) or not all([is_bar(bar) for bar in thing]):
        return False
    return all([bar[0] in names and bar[1] in names for bar in thing]) and are_rising(thing)


def place_of(reason):
    """What reasons are put in order by."""
    weight, one, other, number = reason
    return (-weight, one, other, number)


def in_order(reasons):
    """The reasons in order, as a list."""
    return sorted(reasons, key=place_of)


def ground_of(book, rules):
    """The ground of a book and rules."""
    rows = sorted(book, key=lambda each: each[0])
    told = told_of(rows, rules)
    reasons = [(rule[-1],) + pair for rule, pair in told if rule[0] != "never"]
    bars = [pair for rule, pair in told if rule[0] == "never"]
    return (tuple([row[0] for row in rows]), tuple(in_order(reasons)), tuple(sorted(bars)))


def told_of(rows, rules):
    """For each two rows, by rising names, and each rule that tells of them: the rule and (A, B, K)."""
    return [
        (rule, (row[0], other[0], number))
        for at, row in enumerate(rows)
        for other in rows[at + 1:]
        for number, rule in enumerate(rules)
        if tells(rule, row, other)
    ]

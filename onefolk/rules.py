"""Rules, and what a rule tells of two rows."""

from onefolk.basics import is_whole, is_worded
from onefolk.rows import is_name, word_of

MOST_WEIGHT = 1000
MOST_SIGNS = 12


def is_weight(thing):
    """Whether a thing of any kind is the W of a rule or a reason."""
    return is_whole(thing) and 1 <= thing <= MOST_WEIGHT


def is_beginning(thing):
    """Whether a thing of any kind is the N of a rule."""
    return is_whole(thing) and 1 <= thing <= MOST_SIGNS


def is_rule(thing):
    """Whether a thing of any kind is a rule."""
    if is_worded(thing, "same", 3):
        return is_name(thing[1]) and is_weight(thing[2])
    if is_worded(thing, "begin", 4):
        return is_name(thing[1]) and is_beginning(thing[2]) and is_weight(thing[3])
    if is_worded(thing, "both", 4):
        return are_unlike_names(thing[1], thing[2]) and is_weight(thing[3])
    return is_worded(thing, "never", 2) and is_name(thing[1])


def are_unlike_names(one, other):
    """Whether two things of any kind are names, and not the same one."""
    return is_name(one) and is_name(other) and one != other


def are_rules(thing):
    """Whether a thing of any kind is a tuple of rules."""
    return isinstance(thing, tuple) and all([is_rule(rule) for rule in thing])


def tells(rule, row, other):
    """Whether a rule tells its reason, or a "never" rule its bar, of two rows."""
    if rule[0] == "same":
        return are_alike(row, other, rule[1])
    if rule[0] == "begin":
        return begin_alike(row, other, rule[1], rule[2])
    if rule[0] == "both":
        return are_alike(row, other, rule[1]) and are_alike(row, other, rule[2])
    return are_unlike(row, other, rule[1])


def are_alike(row, other, field):
    """Whether both rows have the field, with one word."""
    word = word_of(row, field)
    return word is not None and word == word_of(other, field)


def are_unlike(row, other, field):
    """Whether both rows have the field, with unlike words."""
    word = word_of(row, field)
    other_word = word_of(other, field)
    return word is not None and other_word is not None and word != other_word


def begin_alike(row, other, field, many):
    """Whether both rows have the field with so many signs or more, the first ones alike."""
    word = word_of(row, field)
    other_word = word_of(other, field)
    if word is None or other_word is None:
        return False
    return len(word) >= many and len(other_word) >= many and word[:many] == other_word[:many]

"""Plans and tables, held against the worlds that they are of."""

from onefolk.basics import are_rising, is_tuple, is_whole, is_worded
from onefolk.plans import parts_them, side_of


def plan_depth(thing, numbers, asked):
    """The depth of a plan, which may be a thing of any kind, that settles the worlds of these numbers, or None."""
    if is_worded(thing, "told", 2):
        return 0 if is_whole(thing[1]) and numbers == (thing[1],) else None
    if not is_worded(thing, "ask", 4):
        return None
    answers = answers_to(thing[1], asked)
    # An ask that doesn't part the worlds is none; so no plan is gone into deeper than there are worlds.
    if answers is None or not parts_them(numbers, answers):
        return None
    yes = plan_depth(thing[2], side_of(numbers, answers, True), asked)
    no = plan_depth(thing[3], side_of(numbers, answers, False), asked)
    return None if yes is None or no is None else 1 + max(yes, no)


def answers_to(thing, asked):
    """What the worlds answer to an ask, which may be a thing of any kind, or None where it is none."""
    if not isinstance(thing, tuple) or not all([isinstance(part, str) for part in thing]):
        return None
    for ask, answers in asked:
        if ask == thing:
            return answers
    return None


def is_table(thing, numbers, many, asked):
    """Whether a thing of any kind is a table which shows that so many asks don't settle the worlds of all numbers."""
    if not isinstance(thing, tuple) or not all([is_table_row(row, numbers, asked) for row in thing]):
        return False
    heads = {(row[0], row[1]): True for row in thing}
    if not all([are_sides(row, heads, asked) for row in thing]):
        return False
    return len(thing) > 0 and thing[0][:2] == (numbers, many)


def is_table_row(thing, numbers, asked):
    """Whether a thing of any kind is written as a row of a table, whatever its sides lead to."""
    if not is_tuple(thing, 3) or not are_numbers(thing[0], numbers) or not is_whole(thing[1]) or thing[1] < 0:
        return False
    sides = thing[2]
    return is_tuple(sides, len(asked) if thing[1] > 0 else 0) and all([isinstance(side, bool) for side in sides])


def are_numbers(thing, numbers):
    """Whether a thing of any kind is a rising tuple of two of the numbers or more."""
    if not isinstance(thing, tuple) or not all([is_whole(part) and part in numbers for part in thing]):
        return False
    return len(thing) >= 2 and are_rising(thing)


def are_sides(row, heads, asked):
    """Whether each side of a row of a table leads to a row that is there."""
    numbers, many, sides = row
    return all([(side_of(numbers, pair[1], side), many - 1) in heads for pair, side in zip(asked, sides)])

"""Rules as texts."""

from onefolk.basics import lines_in, number_in
from onefolk.errors import NoText
from onefolk.rules import is_rule


def show_rules(rules):
    """The text of rules."""
    return "\n".join([show_rule(rule) for rule in rules])


def show_rule(rule):
    """The text of one rule."""
    return " ".join([str(part) for part in rule])


def read_rules(text):
    """The rules of a text, which may be a thing of any kind."""
    rules = []
    for at, line in enumerate(lines_in(text)):
        rule = rule_in(line)
        if rule is None:
            raise NoText(at)
        rules.append(rule)
    return tuple(rules)


def rule_in(line):
    """The rule that a row is written as, or None."""
    # No name is written in figures, so is_rule finds each number that stands for a name, and the other way round.
    rule = tuple([part_in(word) for word in line.split(" ")])
    return rule if is_rule(rule) else None


def part_in(word):
    """The number that a word is written as, or the word itself."""
    number = number_in(word)
    return word if number is None else number

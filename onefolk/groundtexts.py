"""Grounds and joinings as texts."""

from onefolk.basics import lines_in, number_in
from onefolk.errors import NoText
from onefolk.grounds import are_names, is_bar, is_reason, place_of
from onefolk.sets import are_sets

NAMES_WORD = "names"


def show_ground(ground):
    """The text of a ground."""
    names, reasons, bars = ground
    first = " ".join([NAMES_WORD] + list(names))
    return "\n".join([first] + [show_reason(reason) for reason in reasons] + [show_bar(bar) for bar in bars])


def show_reason(reason):
    """The text of a reason."""
    weight, one, other, number = reason
    return f"{one}-{other} {weight} {number}"


def show_bar(bar):
    """The text of a bar."""
    one, other, number = bar
    return f"{one}/{other} {number}"


def read_ground(text):
    """The ground of a text, which may be a thing of any kind."""
    lines = lines_in(text)
    names = names_row_in(lines[0]) if lines else None
    if names is None:
        raise NoText(0)
    reasons = []
    bars = []
    for at, line in enumerate(lines[1:], start=1):
        reason = reason_in(line)
        bar = bar_in(line)
        if reason is not None and not bars and reason_follows(reasons, reason, names):
            reasons.append(reason)
        elif bar is not None and bar_follows(bars, bar, names):
            bars.append(bar)
        else:
            raise NoText(at)
    return (names, tuple(reasons), tuple(bars))


def names_row_in(line):
    """The names that a row is written as, or None."""
    words = line.split(" ")
    names = tuple(words[1:])
    return names if words[0] == NAMES_WORD and are_names(names) else None


def reason_in(text):
    """The reason that a text is written as, or None."""
    words = text.split(" ")
    ends = words[0].split("-")
    if len(words) != 3 or len(ends) != 2:
        return None
    reason = (number_in(words[1]), ends[0], ends[1], number_in(words[2]))
    return reason if is_reason(reason) else None


def bar_in(text):
    """The bar that a text is written as, or None."""
    words = text.split(" ")
    ends = words[0].split("/")
    if len(words) != 2 or len(ends) != 2:
        return None
    bar = (ends[0], ends[1], number_in(words[1]))
    return bar if is_bar(bar) else None


def reason_follows(reasons, reason, names):
    """Whether a reason is of the names and may stand behind these ones."""
    if reason[1] not in names or reason[2] not in names:
        return False
    return not reasons or place_of(reasons[-1]) < place_of(reason)


def bar_follows(bars, bar, names):
    """Whether a bar is of the names and may stand behind these ones."""
    if bar[0] not in names or bar[1] not in names:
        return False
    return not bars or bars[-1] < bar


def show_joining(sets):
    """The text of a joining."""
    return " | ".join([" ".join(own) for own in sets])


def read_joining(text):
    """The joining of a text, which may be a thing of any kind."""
    sets = sets_in(text) if isinstance(text, str) else None
    if sets is None:
        raise NoText(0)
    return list(sets)


def sets_in(text):
    """The sets that a text is written as, as a tuple, or None."""
    if not text:
        return ()
    # The splits only part the text: what stands between, are_sets judges.
    sets = tuple([tuple(part.split(" ")) for part in text.split(" | ")])
    return sets if are_sets(sets) else None

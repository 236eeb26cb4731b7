"""Joinings, good ones and cases, held against the document's words one by one."""

import itertools

from graphs import put_in_order, true_parts, walks


def partitions(names):
    """Every joining of the names, as lists of lists."""
    if not names:
        return [[]]
    first, rest = names[0], names[1:]
    found = []
    for smaller in partitions(rest):
        found.append([[first]] + smaller)
        for at in range(len(smaller)):
            found.append(smaller[:at] + [[first] + smaller[at]] + smaller[at + 1:])
    return found


def joinings(names):
    return [sorted(tuple(sorted(own)) for own in some) for some in partitions(list(names))]


def slow_joining(names, reasons, bars):
    """What [14] says, gone through with the sets themselves."""
    sets = [{name} for name in names]
    kept, barred = [], []
    for reason in reasons:
        one = next(some for some in sets if reason[1] in some)
        other = next(some for some in sets if reason[2] in some)
        if one is other:
            continue
        between = [bar for bar in bars if {bar[0], bar[1]} & one and {bar[0], bar[1]} & other]
        if between:
            barred.append((reason, between[0]))
        else:
            sets = [some for some in sets if some is not one and some is not other] + [one | other]
            kept.append(reason)
    return (sorted(tuple(sorted(some)) for some in sets), kept, barred)


def slow_good(ground, sets):
    names, reasons, bars = ground
    for own in sets:
        if any(bar[0] in own and bar[1] in own for bar in bars):
            return False
        inner = [reason for reason in reasons if reason[1] in own and reason[2] in own]
        if len(true_parts(own, inner)) != 1:
            return False
    return True


def kept_weight(reasons, sets):
    return sum(reason[0] for reason in reasons for own in sets if reason[1] in own and reason[2] in own)


def most_weight(ground):
    """What the best of all good joinings keeps, sought among all of them."""
    return max(kept_weight(ground[1], sets) for sets in joinings(ground[0]) if slow_good(ground, sets))


def barred_parts(ground):
    """The parts with a bar within it, each with its reasons and bars."""
    names, reasons, bars = ground
    found = []
    for part in true_parts(names, reasons):
        own_bars = [bar for bar in bars if bar[0] in part and bar[1] in part]
        if own_bars:
            found.append((part, [reason for reason in reasons if reason[1] in part], own_bars))
    return found


def leads_over_a_bar(way, bars):
    if type(way) is not tuple or len(set(way)) != len(way):
        return False
    return any(walks(way, bar[0]) == bar[1] or walks(way, bar[1]) == bar[0] for bar in bars)


def true_case(part, loss, case, held=(), cut=()):
    """Whether a case is one of a part (rows, reasons, bars) for this loss."""
    rows, reasons, bars = part
    free = [reason for reason in reasons if reason not in held and reason not in cut]
    if type(case) is not tuple:
        return False
    if case[0] == "shut":
        return len(case) == 2 and leads_over_a_bar(case[1], bars) and all(reason in held for reason in case[1])
    if case[0] == "prices":
        if len(case) != 2 or type(case[1]) is not tuple or any(type(row) is not tuple for row in case[1]):
            return False
        for way, price in case[1]:
            if not leads_over_a_bar(way, bars) or not all(reason in held or reason in free for reason in way):
                return False
            if type(price) is not int or price < 1:
                return False
        for reason in free:
            if sum(price for way, price in case[1] if reason in way) > reason[0]:
                return False
        return sum(reason[0] for reason in cut) + sum(price for way, price in case[1]) >= loss
    if case[0] != "cases" or len(case) != 4 or case[1] not in free:
        return False
    return (true_case(part, loss, case[2], held + (case[1],), cut)
            and true_case(part, loss, case[3], held, cut + (case[1],)))


def large_part(chance, most_weight=5, rows=8, reasons=12, bars=6):
    """A ground that is one part of so many rows and reasons, with at most so many bars."""
    names = tuple("abcdefghijklm"[:rows])
    pairs = list(itertools.combinations(names, 2))
    found = {(chance.randrange(most_weight) + 1, names[chance.randrange(at)], names[at], 0) for at in range(1, rows)}
    while len(found) < reasons:
        found.add((chance.randrange(most_weight) + 1,) + chance.choice(pairs) + (chance.randrange(4),))
    return (names, put_in_order(found), tuple(sorted(pair + (0,) for pair in chance.sample(pairs, chance.randrange(bars) + 1))))

"""Grounds to try, and slow but plain ways to find out what is true of them."""

import itertools
import random


def ring(many):
    """A ground of so many names, each with a reason to the next, and the last to the first, weights rising."""
    names = tuple(sorted("abcdefghijklmnopqrstuvwxyz"[at // 26] + "abcdefghijklmnopqrstuvwxyz"[at % 26]
                         for at in range(many)))
    reasons = [(at + 1, names[at], names[at + 1], 0) for at in range(many - 1)]
    reasons.append((many, names[0], names[-1], 0))
    return (names, put_in_order(reasons), ())


def chain(many):
    """The ring's names and reasons but the heaviest, which closes the ring."""
    names, reasons, bars = ring(many)
    return (names, reasons[1:], bars)


def put_in_order(reasons):
    return tuple(sorted(reasons, key=lambda reason: (-reason[0],) + reason[1:]))


def some_ground(chance, most_names=6, most_reasons=8, most_weight=4):
    pool = ["a", "ab", "abc", "b", "ba", "bb", "c", "d", "e", "f"]
    names = tuple(sorted(chance.sample(pool, chance.randrange(most_names + 1))))
    pairs = list(itertools.combinations(names, 2))
    reasons, bars = set(), set()
    if pairs:
        for _ in range(chance.randrange(most_reasons + 1)):
            reasons.add((chance.randrange(most_weight) + 1,) + chance.choice(pairs) + (chance.randrange(3),))
        for _ in range(chance.randrange(4)):
            bars.add(chance.choice(pairs) + (chance.randrange(3),))
    return (names, put_in_order(reasons), tuple(sorted(bars)))


def some_grounds(seed, many, **limits):
    chance = random.Random(seed)
    return [some_ground(chance, **limits) for _ in range(many)]


def reach(name, reasons):
    """All names that reasons lead to from this one, and it itself."""
    found, more = {name}, True
    while more:
        more = False
        for _, one, other, _ in reasons:
            if (one in found) != (other in found):
                found |= {one, other}
                more = True
    return found


def true_parts(names, reasons):
    return sorted({tuple(sorted(reach(name, reasons))) for name in names})


def ways(reasons, start, end, been=()):
    """Every way from start to end that comes to no name twice."""
    if start == end:
        return [[]]
    found = []
    for reason in reasons:
        if start in reason[1:3]:
            there = reason[2] if reason[1] == start else reason[1]
            if there not in been:
                found.extend([reason] + rest for rest in ways(reasons, there, end, been + (start,)))
    return found


def walks(way, start):
    """The name where a way leads from start, or None where its reasons don't stand one behind the other."""
    here = start
    for _, one, other, _ in way:
        if here not in (one, other):
            return None
        here = other if here == one else one
    return here

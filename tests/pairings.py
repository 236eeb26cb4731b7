"""Two joinings of the same names to try, and slow but plain ways to hold them against each other."""

import itertools

from goodness import joinings


def some_joining(chance, names, most_sets):
    """A joining of the names of at most so many sets."""
    homes = [chance.randrange(most_sets) for _ in names]
    return sorted(tuple(sorted(name for name, own in zip(names, homes) if own == home)) for home in set(homes))


def some_pairs(chance, many, most_names=6):
    """Two joinings each time, as they come."""
    found = []
    for _ in range(many):
        names = sorted(chance.sample(["a", "ab", "b", "ba", "c", "d", "e"], chance.randrange(most_names + 1)))
        found.append((chance.choice(joinings(names)), chance.choice(joinings(names))))
    return found


def slow_groups(one, other):
    """The groups, sets put together until none reaches over."""
    groups = [set(own) for own in one + other]
    while True:
        for first in groups:
            more = [second for second in groups if second is not first and first & second]
            if more:
                groups = [own for own in groups if own is not first and own is not more[0]] + [first | more[0]]
                break
        else:
            return sorted(tuple(sorted(group)) for group in groups)


def neighbours(sets):
    """Every joining that is one step away."""
    found = []
    for at, own in enumerate(sets):
        for other in sets[at + 1:]:
            rest = [each for each in sets if each not in (own, other)]
            found.append(sorted(rest + [tuple(sorted(own + other))]))
        for halves in joinings(own):
            if len(halves) == 2:
                found.append(sorted([each for each in sets if each != own] + halves))
    return found


def slow_distance(one, other):
    """The fewest steps, sought one by one."""
    seen, many = [one], 0
    edge = [one]
    while other not in edge:
        many += 1
        edge = [sets for near in edge for sets in neighbours(near)]
        edge = [sets for at, sets in enumerate(edge) if sets not in seen and sets not in edge[:at]]
        seen += edge
    return many


def slow_most(one, other):
    """The most names that pairs share, every way to pair tried."""
    if len(one) > len(other):
        one, other = other, one
    return max(sum(len(set(one[row]) & set(other[column])) for row, column in enumerate(columns))
               for columns in itertools.permutations(range(len(other)), len(one)))


# Joinings of names that aren't the same, with the least name of one alone.
OTHER_NAMES = [
    ([("a",)], [("b",)], "a"),
    ([("b",)], [("a",)], "a"),
    ([("a", "b")], [("a",), ("c",)], "b"),
    ([("a",), ("c",)], [("a", "b")], "b"),
    ([], [("x",), ("y",)], "x"),
    ([("b", "y"), ("x",)], [], "b"),
    ([("a", "b"), ("c",)], [("a",), ("b", "c", "d")], "d"),
    ([("a", "d"), ("c",)], [("c", "d"), ("e",)], "a"),
]

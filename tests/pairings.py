"""Two joinings of the same names to try."""

from goodness import joinings


def some_joining(chance, names, most_sets):
    """A joining of the names of at most so many sets."""
    homes = [chance.randrange(most_sets) for _ in names]
    return sorted(tuple(sorted(name for name, own in zip(names, homes) if own == home)) for home in set(homes))


def some_pairs(chance, many, most_names=6):
    """Two joinings each time, as they come."""
    found = []
    for _ in range(many):
        names = sorted(chance.sample(["a", "ab", "b", "ba", "c", "d", "e"], chance.randrange(most_names + 1)))
        found.append((chance.choice(joinings(names)), chance.choice(joinings(names))))
    return found


# Joinings of names that aren't the same, with the least name of one alone.
OTHER_NAMES = [
    ([("a",)], [("b",)], "a"),
    ([("b",)], [("a",)], "a"),
    ([("a", "b")], [("a",), ("c",)], "b"),
    ([("a",), ("c",)], [("a", "b")], "b"),
    ([], [("x",), ("y",)], "x"),
    ([("b", "y"), ("x",)], [], "b"),
    ([("a", "b"), ("c",)], [("a",), ("b", "c", "d")], "d"),
    ([("a", "d"), ("c",)], [("c", "d"), ("e",)], "a"),
]

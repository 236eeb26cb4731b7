"""Worlds, asks that tell them apart, and what a world answers."""

from onefolk.sets import are_sets, names_in

MOST_WORLDS = 8
MOST_NAMES = 8


def are_worlds(thing):
    """Whether a thing of any kind is a tuple of worlds: one at least, unlike ones, not too many, nor too many names."""
    if not isinstance(thing, tuple) or not all([are_sets(world) for world in thing]):
        return False
    if not 1 <= len(thing) <= MOST_WORLDS or len(set(thing)) != len(thing):
        return False
    return len(names_of(thing)) <= MOST_NAMES


def names_of(worlds):
    """The names of all worlds, rising."""
    return sorted({name for world in worlds for name in names_in(world)})


def asks_of(worlds):
    """All asks of the names of the worlds, in order."""
    names = names_of(worlds)
    stands = [("stands", name) for name in names]
    return stands + [("one", name, other) for at, name in enumerate(names) for other in names[at + 1:]]


def answer(world, ask):
    """What a world answers: whether all names of the ask stand, in one set."""
    return any([all([name in own for name in ask[1:]]) for own in world])

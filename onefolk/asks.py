"""Asks that tell worlds apart, and what a world answers."""


def asks_of(worlds):
    """All asks of the names of the worlds, in order."""
    names = sorted({name for world in worlds for own in world for name in own})
    stands = [("stands", name) for name in names]
    return stands + [("one", name, other) for at, name in enumerate(names) for other in names[at + 1:]]


def answer(world, ask):
    """What a world answers: whether all names of the ask stand, in one set."""
    return any([all([name in own for name in ask[1:]]) for own in world])

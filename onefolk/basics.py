"""What several modules need of numbers and of order."""

FIGURES = "0123456789"


def is_whole(thing):
    """Whether a thing of any kind is a whole number; a truth is none."""
    return isinstance(thing, int) and not isinstance(thing, bool)


def are_rising(things):
    """Whether each thing is less than the next one, so that no two are alike."""
    return all([things[at] < things[at + 1] for at in range(len(things) - 1)])

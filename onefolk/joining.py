"""The told joining, which keeps bars, and what becomes of each reason in it."""

from onefolk.holding import refuse_no_reason, way_by
from onefolk.parts import join_heads, lone_heads, sets_under


def joining_of(ground):
    """The joining, the kept reasons, and the barred ones each with its bar."""
    names, reasons, bars = ground
    heads = lone_heads(names)
    kept = []
    barred = []
    for reason in reasons:
        one = heads[reason[1]]
        other = heads[reason[2]]
        if one != other:
            bar = bar_between(bars, heads, one, other)
            if bar is None:
                join_heads(heads, one, other)
                kept.append(reason)
            else:
                barred.append((reason, bar))
    return (sets_under(heads), kept, barred)


def bar_between(bars, heads, one, other):
    """The first bar that has a row under each of two unlike heads, or None."""
    for bar in bars:
        if heads[bar[0]] == one and heads[bar[1]] == other or heads[bar[0]] == other and heads[bar[1]] == one:
            return bar
    return None


def fate_of(ground, reason):
    """What becomes of a reason of the ground, which may be a thing of any kind."""
    refuse_no_reason(ground, reason)
    sets, kept, barred = joining_of(ground)
    if reason in kept:
        return ("kept",)
    # No ring is kept, so the one way within a set is the one that stood there when the reason's turn came.
    for other, bar in barred:
        if other == reason:
            return ("barred", bar) + ways_to_bar(kept, reason, bar)
    return ("beside", way_by(kept, reason[1], reason[2]))


def ways_to_bar(kept, reason, bar):
    """The ways from the two rows of a barred reason to the two rows of its bar."""
    one = way_by(kept, reason[1], bar[0])
    if one is not None:
        return (one, way_by(kept, reason[2], bar[1]))
    return (way_by(kept, reason[1], bar[1]), way_by(kept, reason[2], bar[0]))

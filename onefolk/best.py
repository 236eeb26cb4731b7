"""Good joinings, and the one that keeps the most weight."""

from onefolk.errors import NoRoom
from onefolk.holding import way_by
from onefolk.parts import heads_by, parts_by, parts_of

MOST_ROWS = 8
MOST_REASONS = 12


def is_good(ground, sets):
    """Whether a joining of the ground's names has no bar within a set, and each set hangs together by itself."""
    names, reasons, bars = ground
    inner = reasons_within(sets, reasons)
    return not bars_within(sets, bars) and parts_by(names, inner) == sorted(sets)


def reasons_within(sets, reasons):
    """The reasons both of whose rows are in one set."""
    homes = homes_of(sets)
    return [reason for reason in reasons if homes[reason[1]] == homes[reason[2]]]


def bars_within(sets, bars):
    """The bars both of whose rows are in one set."""
    homes = homes_of(sets)
    return [bar for bar in bars if homes[bar[0]] == homes[bar[1]]]


def homes_of(sets):
    """For each name the place of its set."""
    return {name: at for at, names in enumerate(sets) for name in names}


def weight_of(reasons):
    """The weight of all these reasons."""
    return sum([reason[0] for reason in reasons])


def best_of(ground):
    """A good joining that keeps the most weight, and the weights that it keeps and loses."""
    grounds = part_grounds(ground)
    for own in grounds:
        refuse_no_room(own)
    sets = sorted([names for own in grounds for names in best_sets(own)])
    kept = weight_of(reasons_within(sets, ground[1]))
    return (sets, kept, weight_of(ground[1]) - kept)


def part_grounds(ground):
    """For each part its own ground, which has the bars within it alone."""
    names, reasons, bars = ground
    return [
        (
            part,
            tuple([reason for reason in reasons if reason[1] in part]),
            tuple([bar for bar in bars if bar[0] in part and bar[1] in part]),
        )
        for part in parts_of(ground)
    ]


def refuse_no_room(own):
    """Refuses a part that has a bar within it and is too large to be sought through."""
    names, reasons, bars = own
    if bars and (len(names) > MOST_ROWS or len(reasons) > MOST_REASONS):
        raise NoRoom("a part with a bar within it is too large")


def best_sets(own):
    """The sets of a part that keep the most weight of its reasons, none with a bar within it."""
    names, reasons, bars = own
    cut = lightest_cut(own, [], [], weight_of(reasons) + 1)
    return parts_by(names, [reason for reason in reasons if reason not in cut])


def lightest_cut(own, held, cut, limit):
    """The lightest reasons that, cut, leave no bar within a set: the cut ones and others that aren't held.

    None where they don't weigh less than the limit.
    """
    if weight_of(cut) >= limit:
        return None
    way = barred_way(own, cut)
    if way is None:
        return cut
    choices = [reason for reason in way if reason not in held]
    if not choices:
        return None
    with_cut = lightest_cut(own, held, cut + choices[:1], limit)
    if with_cut is not None:
        limit = weight_of(with_cut)
    with_held = lightest_cut(own, held + choices[:1], cut, limit)
    return with_cut if with_held is None else with_held


def barred_way(own, cut):
    """A way of reasons that aren't cut from one row of a bar to the other one, or None."""
    names, reasons, bars = own
    left = [reason for reason in reasons if reason not in cut]
    heads = heads_by(names, left)
    for bar in bars:
        if heads[bar[0]] == heads[bar[1]]:
            return way_by(left, bar[0], bar[1])
    return None

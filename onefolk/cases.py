"""Cases that show that no good joining loses less weight than the best one."""

from onefolk.best import barred_way, best_of, part_grounds, reasons_within, weight_of


def cases_of(ground):
    """For each part with a bar within it, in order, a case for what the best joining loses there."""
    sets, kept, lost = best_of(ground)
    return tuple([case_of(own, loss_of(own, sets), [], []) for own in part_grounds(ground) if own[2]])


def loss_of(own, sets):
    """The weight of a part's reasons that a joining loses."""
    return weight_of(own[1]) - weight_of(reasons_within(sets, own[1]))


def case_of(own, loss, held, cut):
    """A case of a part where some reasons are held and some are cut."""
    names, reasons, bars = own
    shut = barred_way((names, held, bars), [])
    if shut is not None:
        return ("shut", tuple(shut))
    rows = priced_ways(own, held, cut)
    if weight_of(cut) + sum([price for way, price in rows]) >= loss:
        return ("prices", rows)
    # A way is left, since a cut that leaves none loses as much as the best joining; and not all of it is held.
    choice = undecided_ones(barred_way(own, cut), held)[0]
    return (
        "cases",
        choice,
        case_of(own, loss, held + [choice], cut),
        case_of(own, loss, held, cut + [choice]),
    )


def undecided_ones(way, held):
    """The reasons of an uncut way that are neither held nor cut."""
    return [reason for reason in way if reason not in held]


def priced_ways(own, held, cut):
    """Ways from one row of a bar to the other one, each with a price that its undecided reasons have room for."""
    rooms = {reason: reason[0] for reason in own[1]}
    full = list(cut)
    rows = []
    way = barred_way(own, full)
    while way is not None:
        passed = undecided_ones(way, held)
        price = min([rooms[reason] for reason in passed])
        for reason in passed:
            rooms[reason] -= price
        full.extend([reason for reason in passed if rooms[reason] == 0])
        rows.append((tuple(way), price))
        way = barred_way(own, full)
    return tuple(rows)

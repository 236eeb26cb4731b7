"""Cases, held against what they should show."""

from onefolk.basics import is_tuple, is_whole, is_worded
from onefolk.best import weight_of
from onefolk.holding import are_some, leads


def is_case(thing, own, loss):
    """Whether a thing of any kind is a case of a part, which has its own ground, for this loss."""
    # The first case comes off the list first, so the list stays as short as the cases are deep.
    waiting = [(thing, (), ())]
    while waiting:
        case, held, cut = waiting.pop()
        if is_worded(case, "cases", 4):
            reason = case[1]
            if not are_some((reason,), others_of(own, held + cut)):
                return False
            waiting.append((case[3], held, cut + (reason,)))
            waiting.append((case[2], held + (reason,), cut))
        elif not is_last_case(case, own, loss, held, cut):
            return False
    return True


def others_of(own, reasons):
    """The reasons of a part but these."""
    return [reason for reason in own[1] if reason not in reasons]


def is_last_case(thing, own, loss, held, cut):
    """Whether a thing of any kind is a case without cases, of a part where some reasons are held and some are cut."""
    if is_worded(thing, "shut", 2):
        return is_barred_way(thing[1], held, own[2])
    return is_worded(thing, "prices", 2) and are_prices(thing[1], own, loss, held, cut)


def is_barred_way(thing, reasons, bars):
    """Whether a thing of any kind is a way of these reasons from one row of a bar to the other one."""
    if not are_some(thing, reasons):
        return False
    return any([leads(thing, bar[0], bar[1]) or leads(thing, bar[1], bar[0]) for bar in bars])


def are_prices(thing, own, loss, held, cut):
    """Whether a thing of any kind is a tuple of ways with prices that come to the loss with all cut reasons."""
    uncut = others_of(own, cut)
    if not isinstance(thing, tuple) or not all([is_priced_way(row, uncut, own[2]) for row in thing]):
        return False
    for reason in others_of(own, held + cut):
        if price_of([row for row in thing if reason in row[0]]) > reason[0]:
            return False
    return weight_of(cut) + price_of(thing) >= loss


def is_priced_way(thing, reasons, bars):
    """Whether a thing of any kind is a way of these reasons from one row of a bar to the other one, and its price."""
    return is_tuple(thing, 2) and is_barred_way(thing[0], reasons, bars) and is_whole(thing[1]) and thing[1] >= 1


def price_of(rows):
    """What the prices of these rows come to."""
    return sum([price for way, price in rows])

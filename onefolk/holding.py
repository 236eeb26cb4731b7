"""The reasons that hold the parts of a ground, and what hangs on a reason."""

from onefolk.errors import NoReason
from onefolk.grounds import is_reason
from onefolk.parts import join_heads, lone_heads, part_by, refuse_no_name


def holding_of(ground):
    """The holding reasons of a ground, in order."""
    names, reasons, bars = ground
    heads = lone_heads(names)
    holding = []
    for reason in reasons:
        one = heads[reason[1]]
        other = heads[reason[2]]
        if one != other:
            join_heads(heads, one, other)
            holding.append(reason)
    return holding


def why_one(ground, one, other):
    """The holding reasons of the way from one name to the other, or None; the names may be things of any kind."""
    refuse_no_name(ground, one)
    refuse_no_name(ground, other)
    return way_by(holding_of(ground), one, other)


def way_by(reasons, start, end):
    """A way of the reasons from start to end, none twice, or None."""
    came_by = {start: None}
    reached = [start]
    while reached:
        here = reached.pop(0)
        for reason in reasons:
            there = other_end(reason, here)
            if there is not None and there not in came_by:
                came_by[there] = reason
                reached.append(there)
    if end not in came_by:
        return None
    return way_back(came_by, end)[::-1]


def way_back(came_by, end):
    """The reasons from end back to the name that no reason came by."""
    way = []
    here = end
    while came_by[here] is not None:
        way.append(came_by[here])
        here = other_end(came_by[here], here)
    return way


def other_end(reason, name):
    """The name that a reason leads to from this one, or None where it isn't of this one."""
    if reason[1] == name:
        return reason[2]
    if reason[2] == name:
        return reason[1]
    return None


def are_some(thing, reasons):
    """Whether a thing of any kind is a tuple of some of these reasons, none twice."""
    # is_reason first: True equals 1, and so would be found among the reasons.
    if not isinstance(thing, tuple) or not all([is_reason(part) and part in reasons for part in thing]):
        return False
    return len(set(thing)) == len(thing)


def leads(way, start, end):
    """Whether these reasons, one behind the other, lead from start to end."""
    here = start
    for reason in way:
        here = other_end(reason, here)
        if here is None:
            return False
    return here == end


def hangs_on(ground, reason):
    """What hangs on a reason of the ground, which may be a thing of any kind."""
    refuse_no_reason(ground, reason)
    names, reasons, bars = ground
    others = [other for other in reasons if other != reason]
    one_part = part_by(names, others, reason[1])
    if reason[2] in one_part:
        return ("stays",)
    return ("parts", one_part, part_by(names, others, reason[2]))


def refuse_no_reason(ground, reason):
    """Refuses a thing of any kind that is no reason of the ground."""
    # is_reason first: True equals 1, and so would be found among the reasons.
    if not is_reason(reason) or reason not in ground[1]:
        raise NoReason("this is no reason of the ground")

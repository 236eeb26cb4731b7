"""The parts of a ground: names that hang together by reasons."""

from onefolk.errors import NoName
from onefolk.rows import is_name


def parts_of(ground):
    """The parts of a ground, by their first names."""
    return parts_by(ground[0], ground[1])


def part_of(ground, name):
    """The part of a name, which may be a thing of any kind."""
    refuse_no_name(ground, name)
    return part_by(ground[0], ground[1], name)


def refuse_no_name(ground, name):
    """Refuses a thing of any kind that is no name of the ground."""
    if not is_name(name) or name not in ground[0]:
        raise NoName(name)


def parts_by(names, reasons):
    """The parts of rising names by these reasons, by their first names."""
    return sets_under(heads_by(names, reasons))


def part_by(names, reasons, name):
    """The part of one of the rising names by these reasons."""
    heads = heads_by(names, reasons)
    return names_under(heads, heads[name])


def heads_by(names, reasons):
    """Each name's head, the least name of its part by these reasons."""
    heads = lone_heads(names)
    for weight, one, other, number in reasons:
        join_heads(heads, heads[one], heads[other])
    return heads


def lone_heads(names):
    """Each name's head where each name is alone."""
    return {name: name for name in names}


def join_heads(heads, one, other):
    """Puts the parts of two heads under the lesser one."""
    head = min(one, other)
    for name in list(heads):
        if heads[name] == one or heads[name] == other:
            heads[name] = head


def sets_under(heads):
    """The sets of all heads, by their first names."""
    return [names_under(heads, name) for name in heads if heads[name] == name]


def names_under(heads, head):
    """The names of one head, in the order in which heads has them."""
    return tuple([name for name in heads if heads[name] == head])

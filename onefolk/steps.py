"""Two joinings of the same names: their groups, and the least steps from one to the other."""

from onefolk.basics import is_worded
from onefolk.errors import NoName, NoStep
from onefolk.parts import join_heads, lone_heads, sets_under
from onefolk.sets import is_set, names_in


def groups_of(one, other):
    """The groups of two joinings, by their first names."""
    refuse_other_names(one, other)
    heads = lone_heads(names_in(one))
    for own in one + other:
        for name in own:
            join_heads(heads, heads[own[0]], heads[name])
    return [group_of(one, other, names) for names in sets_under(heads)]


def refuse_other_names(one, other):
    """Refuses joinings that aren't of the same names."""
    alone = sorted(set(names_in(one)) ^ set(names_in(other)))
    if alone:
        raise NoName(alone[0])


def group_of(one, other, names):
    """The group of these names: its word, and its sets of both joinings."""
    ones = tuple([own for own in one if own[0] in names])
    others = tuple([own for own in other if own[0] in names])
    return (word_for(len(ones), len(others)), ones, others)


def word_for(ones, others):
    """The word of a group of so many sets of both joinings."""
    if ones == 1:
        return "kept" if others == 1 else "split"
    return "joined" if others == 1 else "mixed"


def steps_between(one, other):
    """A least row of steps from one joining to the other."""
    steps = []
    for word, ones, others in groups_of(one, other):
        steps.extend(joins_of(ones))
        # The joins of the other sets, backwards, take the whole group apart into them.
        steps.extend([("split",) + step[1:] for step in joins_of(others)[::-1]])
    return steps


def joins_of(sets):
    """The steps that join the sets, one behind the other."""
    steps = []
    whole = sets[0]
    for own in sets[1:]:
        steps.append(("join", whole, own))
        whole = together(whole, own)
    return steps


def together(one, other):
    """The names of two sets, rising."""
    return tuple(sorted(one + other))


def behind_step(one, step):
    """The joining behind a step, which may be a thing of any kind."""
    if not is_step(step):
        raise NoStep("this is no step")
    word, first, second = step
    ahead, behind = [first, second], [together(first, second)]
    if word == "split":
        ahead, behind = behind, ahead
    if first == second or not all([own in one for own in ahead]):
        raise NoStep("this step can't be done here")
    return sorted([own for own in one if own not in ahead] + behind)


def is_step(thing):
    """Whether a thing of any kind is written as a step."""
    if not is_worded(thing, "join", 3) and not is_worded(thing, "split", 3):
        return False
    return is_set(thing[1]) and is_set(thing[2])

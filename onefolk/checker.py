"""The checker: takes a claim with its paper, or doesn't, trusting nobody."""

from onefolk.asks import are_worlds
from onefolk.basics import are_rising, is_tuple, is_whole, is_worded
from onefolk.best import is_good, part_grounds
from onefolk.casechecks import is_case
from onefolk.cases import loss_of
from onefolk.errors import NoStep
from onefolk.grounds import are_names, is_bar, is_ground, is_reason
from onefolk.holding import are_some, holding_of, leads
from onefolk.joining import joining_of
from onefolk.moved import shared
from onefolk.planchecks import is_table, plan_depth
from onefolk.plans import answered
from onefolk.rows import is_name
from onefolk.sets import are_sets, names_in
from onefolk.steps import behind_step, groups_of


def are_of_ground(ground, one, other):
    """Whether things of any kind are a ground and two of its names, which may be alike."""
    return is_ground(ground) and all([is_name(name) and name in ground[0] for name in (one, other)])


def one_holds(claim, paper):
    """Whether a way leads from one name to the other; of one name the empty one alone."""
    word, ground, one, other = claim
    if not are_of_ground(ground, one, other):
        return False
    if one == other:
        return is_tuple(paper, 0)
    return are_some(paper, ground[1]) and leads(paper, one, other)


def apart_holds(claim, paper):
    """Whether some names have one of two names, not the other, and no reason leads out of them."""
    word, ground, one, other = claim
    if not are_of_ground(ground, one, other) or not are_names(paper):
        return False
    if not all([name in ground[0] for name in paper]) or one not in paper or other in paper:
        return False
    return all([(reason[1] in paper) == (reason[2] in paper) for reason in ground[1]])


def holding_holds(claim, paper):
    """Whether reasons are the holding ones."""
    word, ground, reasons = claim
    return is_ground(ground) and are_some(reasons, ground[1]) and paper is None and list(reasons) == holding_of(ground)


def joining_holds(claim, paper):
    """Whether sets, kept reasons and barred ones are what is told of a ground."""
    word, ground, sets = claim
    if not is_ground(ground) or not are_sets(sets) or not is_tuple(paper, 2):
        return False
    kept, barred = paper
    if not are_some(kept, ground[1]) or not isinstance(barred, tuple) or not all([is_barred(pair) for pair in barred]):
        return False
    return joining_of(ground) == (list(sets), list(kept), list(barred))


def is_barred(thing):
    """Whether a thing of any kind is a reason with a bar."""
    return is_tuple(thing, 2) and is_reason(thing[0]) and is_bar(thing[1])


def best_holds(claim, paper):
    """Whether sets are good, and cases show that no good ones lose less."""
    word, ground, sets = claim
    if not is_ground(ground) or not are_sets(sets) or names_in(sets) != list(ground[0]) or not is_good(ground, sets):
        return False
    grounds = part_grounds(ground)
    barred = [own for own in grounds if own[2]]
    if not all([own[0] in sets for own in grounds if not own[2]]) or not is_tuple(paper, len(barred)):
        return False
    return all([is_case(case, own, loss_of(own, sets)) for case, own in zip(paper, barred)])


def asks_holds(claim, paper):
    """Whether a plan settles all worlds by so many asks, and a table shows that one less doesn't."""
    word, worlds, depth = claim
    if not are_worlds(worlds) or not is_whole(depth) or not is_tuple(paper, 2):
        return False
    plan, table = paper
    asked = answered(worlds)
    numbers = tuple(range(len(worlds)))
    if plan_depth(plan, numbers, asked) != depth:
        return False
    return is_tuple(table, 0) if depth == 0 else is_table(table, numbers, depth - 1, asked)


def are_joinings(one, other):
    """Whether things of any kind are two joinings, as tuples, of the same names."""
    return are_sets(one) and are_sets(other) and names_in(one) == names_in(other)


def steps_holds(claim, paper):
    """Whether steps are a least row from one joining to the other."""
    word, one, other, steps = claim
    if not are_joinings(one, other) or paper is not None:
        return False
    least = len(one) + len(other) - 2 * len(groups_of(list(one), list(other)))
    return is_tuple(steps, least) and behind_steps(one, steps) == list(other)


def behind_steps(one, steps):
    """The joining behind all steps, which may be things of any kind, or None where one can't be done."""
    here = list(one)
    for step in steps:
        try:
            here = behind_step(here, step)
        except NoStep:
            return None
    return here


def moved_holds(claim, paper):
    """Whether pairs leave so many names moved, and prices show that no other pairs leave fewer."""
    word, one, other, many = claim
    if not are_joinings(one, other) or not is_whole(many) or not is_tuple(paper, 2):
        return False
    pairs, prices = paper
    if not are_pairs(pairs, one, other) or not is_tuple(prices, 2):
        return False
    stayed = sum([len(shared(one[row], other[column])) for row, column in pairs])
    return many == len(names_in(one)) - stayed and show_most(prices, one, other, stayed)


def are_pairs(thing, one, other):
    """Whether a thing of any kind is a rising tuple of pairs of sets, by their places, none in two."""
    if not isinstance(thing, tuple) or not all([is_pair(pair, one, other) for pair in thing]):
        return False
    if len({row for row, column in thing}) < len(thing) or len({column for row, column in thing}) < len(thing):
        return False
    return are_rising(thing)


def is_pair(thing, one, other):
    """Whether a thing of any kind is the places of a set of each joining, which share a name."""
    if not is_tuple(thing, 2) or not is_place(thing[0], one) or not is_place(thing[1], other):
        return False
    return len(shared(one[thing[0]], other[thing[1]])) > 0


def is_place(thing, sets):
    """Whether a thing of any kind is the place of a set, counted from the first one."""
    return is_whole(thing) and 0 <= thing < len(sets)


def show_most(prices, one, other, stayed):
    """Whether two things of any kind are prices of all sets which show that no pairs share more than what stayed."""
    ones, others = prices
    if not are_prices_for(ones, one) or not are_prices_for(others, other) or sum(ones) + sum(others) != stayed:
        return False
    return all([
        price + other_price >= len(shared(own, each))
        for own, price in zip(one, ones)
        for each, other_price in zip(other, others)
    ])


def are_prices_for(thing, sets):
    """Whether a thing of any kind is a tuple of whole numbers from 0 on, one for each set."""
    return is_tuple(thing, len(sets)) and all([is_whole(price) and price >= 0 for price in thing])


# How many parts a claim of each word has.
LENGTHS = {"one": 4, "apart": 4, "holding": 3, "joining": 3, "best": 3, "asks": 3, "steps": 4, "moved": 4}

CHECKS = {
    "one": one_holds,
    "apart": apart_holds,
    "holding": holding_holds,
    "joining": joining_holds,
    "best": best_holds,
    "asks": asks_holds,
    "steps": steps_holds,
    "moved": moved_holds,
}


def holds(claim, paper):
    """Whether a claim with its paper, both things of any kind, is taken."""
    for word in CHECKS:
        if is_worded(claim, word, LENGTHS[word]):
            check = CHECKS[word]
            return check(claim, paper)
    return False

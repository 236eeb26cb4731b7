"""Worlds to try, and plans and tables held against the document's words one by one."""

import itertools

from goodness import joinings


def some_world(chance, names):
    return tuple(chance.choice(joinings(sorted(chance.sample(names, chance.randrange(len(names) + 1))))))


def some_worlds(chance, most_worlds=8, most_names=4):
    names = sorted(chance.sample(["a", "ab", "b", "c", "d", "e", "f", "g"], chance.randrange(1, most_names + 1)))
    found = []
    for _ in range(chance.randrange(1, most_worlds + 1)):
        world = some_world(chance, names)
        if world not in found:
            found.append(world)
    return tuple(found)


def true_asks(worlds):
    names = sorted({name for world in worlds for own in world for name in own})
    return [("stands", name) for name in names] + [("one",) + pair for pair in itertools.combinations(names, 2)]


def true_answer(world, ask):
    if ask[0] == "stands":
        return sum(own.count(ask[1]) for own in world) == 1
    return len([own for own in world if ask[1] in own and ask[2] in own]) == 1


def settles(plan, worlds, numbers):
    """The depth of a plan that settles the worlds of these numbers, or None where it is none."""
    if type(plan) is not tuple:
        return None
    if plan[0] == "told":
        return 0 if len(plan) == 2 and type(plan[1]) is int and [plan[1]] == numbers else None
    if plan[0] != "ask" or len(plan) != 4 or plan[1] not in true_asks(worlds):
        return None
    sides = [[number for number in numbers if true_answer(worlds[number], plan[1]) is side] for side in (True, False)]
    if not all(sides):
        return None
    depths = [settles(inner, worlds, side) for inner, side in zip(plan[2:], sides)]
    return None if None in depths else 1 + max(depths)


def can_settle(worlds, many):
    """Whether so many asks settle the worlds, each ask tried in turn."""
    if len(worlds) == 1:
        return True
    if many == 0:
        return False
    for ask in true_asks(worlds):
        sides = [[world for world in worlds if true_answer(world, ask) is side] for side in (True, False)]
        if all(sides) and all(can_settle(side, many - 1) for side in sides):
            return True
    return False


def least_depth(worlds):
    return next(many for many in range(len(worlds)) if can_settle(worlds, many))


def true_table(table, worlds, many):
    """Whether a table shows that so many asks don't settle the worlds."""
    asks = true_asks(worlds)
    if type(table) is not tuple or not table or table[0][:2] != (tuple(range(len(worlds))), many):
        return False
    heads = [row[:2] for row in table]
    for numbers, left, sides in table:
        if type(numbers) is not tuple or len(numbers) < 2 or list(numbers) != sorted(set(numbers)):
            return False
        if type(left) is not int or left < 0 or type(sides) is not tuple:
            return False
        if len(sides) != (len(asks) if left else 0) or not all(type(side) is bool for side in sides):
            return False
        for ask, side in zip(asks, sides):
            behind = tuple(number for number in numbers if true_answer(worlds[number], ask) is side)
            if (behind, left - 1) not in heads:
                return False
    return True

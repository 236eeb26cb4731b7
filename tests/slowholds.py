"""The checker written by itself, sort by sort as [26] tells it, and whether a claim is true, found by searching."""

import itertools
import re

from goodness import joinings, kept_weight, slow_good, slow_joining
from graphs import put_in_order, reach, true_parts
from pairings import slow_distance, slow_groups, slow_most
from worlds import least_depth, true_answer, true_asks


class Refused(Exception):
    pass


def need(so):
    if not so:
        raise Refused


def exactly(thing, kind, many=None):
    need(type(thing) is kind)
    need(many is None or len(thing) == many)
    return thing


def need_name(thing):
    need(re.fullmatch("[a-z]{1,8}", exactly(thing, str)))


def need_whole(thing, least, most=None):
    need(exactly(thing, int) >= least and (most is None or thing <= most))


def need_rising(things):
    need(all(one < other for one, other in zip(things, things[1:])))


def need_names(thing):
    for name in exactly(thing, tuple):
        need_name(name)
    need_rising(thing)


def need_ends(one, other, number):
    need_name(one)
    need_name(other)
    need(one < other)
    need_whole(number, 0)


def need_reason(thing):
    weight, *rest = exactly(thing, tuple, 4)
    need_whole(weight, 1, 1000)
    need_ends(*rest)


def need_bar(thing):
    need_ends(*exactly(thing, tuple, 3))


def need_ground(thing):
    names, reasons, bars = exactly(thing, tuple, 3)
    need_names(names)
    for reason in exactly(reasons, tuple):
        need_reason(reason)
        need(set(reason[1:3]) <= set(names))
    for bar in exactly(bars, tuple):
        need_bar(bar)
        need(set(bar[:2]) <= set(names))
    need(len(set(reasons)) == len(reasons) and put_in_order(reasons) == reasons)
    need(len(set(bars)) == len(bars) and tuple(sorted(bars)) == bars)


def need_sets(thing):
    for own in exactly(thing, tuple):
        need_names(own)
        need(own)
    names = [name for own in thing for name in own]
    need(len(names) == len(set(names)))
    need(list(thing) == sorted(thing))
    return sorted(names)


def need_ways(thing, reasons, ends):
    """A way of these reasons from one to the other of one of some pairs of ends."""
    for reason in exactly(thing, tuple):
        need_reason(reason)
        need(reason in reasons)
    need(len(set(thing)) == len(thing))
    for here, end in ends:
        for reason in thing:
            if here in reason[1:3]:
                here = reason[1] if reason[2] == here else reason[2]
            else:
                here = None
        if here == end:
            return
    need(False)


def check_one(claim, paper):
    ground, one, other = claim
    need_ground(ground)
    for name in (one, other):
        need_name(name)
        need(name in ground[0])
    need_ways(paper, ground[1], [(one, other)])
    need(one != other or paper == ())


def check_apart(claim, paper):
    ground, one, other = claim
    need_ground(ground)
    for name in (one, other):
        need_name(name)
        need(name in ground[0])
    need_names(paper)
    need(set(paper) <= set(ground[0]))
    need(one in paper)
    need(other not in paper)
    need(not any(len(set(reason[1:3]) & set(paper)) == 1 for reason in ground[1]))


def check_holding(claim, paper):
    ground, reasons = claim
    need_ground(ground)
    need(paper is None)
    for reason in exactly(reasons, tuple):
        need_reason(reason)
    need(list(reasons) == slow_holding(ground))


def slow_holding(ground):
    return [reason for at, reason in enumerate(ground[1]) if reason[2] not in reach(reason[1], ground[1][:at])]


def check_joining(claim, paper):
    ground, sets = claim
    need_ground(ground)
    need_sets(sets)
    kept, barred = exactly(paper, tuple, 2)
    for reason in exactly(kept, tuple):
        need_reason(reason)
    for pair in exactly(barred, tuple):
        reason, bar = exactly(pair, tuple, 2)
        need_reason(reason)
        need_bar(bar)
    need((list(sets), list(kept), list(barred)) == slow_joining(*ground))


def check_best(claim, paper):
    ground, sets = claim
    need_ground(ground)
    need(need_sets(sets) == list(ground[0]))
    need(slow_good(ground, sets))
    cases = list(exactly(paper, tuple))
    for part in true_parts(ground[0], ground[1]):
        bars = [bar for bar in ground[2] if set(bar[:2]) <= set(part)]
        reasons = [reason for reason in ground[1] if reason[1] in part]
        if bars:
            need(cases)
            loss = sum(reason[0] for reason in reasons) - kept_weight(reasons, sets)
            need_case(cases.pop(0), {reason: "open" for reason in reasons}, bars, loss)
        else:
            need(part in sets)
    need(not cases)


def need_case(thing, states, bars, loss):
    ends = [bar[:2] for bar in bars] + [bar[1::-1] for bar in bars]
    word, *rest = exactly(thing, tuple) or (None,)
    exactly(word, str)
    if word == "shut":
        way, = exactly(tuple(rest), tuple, 1)
        need_ways(way, [reason for reason in states if states[reason] == "held"], ends)
    elif word == "prices":
        rows, = exactly(tuple(rest), tuple, 1)
        left = {reason: reason[0] for reason in states if states[reason] == "open"}
        shown = sum(reason[0] for reason in states if states[reason] == "cut")
        for row in exactly(rows, tuple):
            way, price = exactly(row, tuple, 2)
            need_whole(price, 1)
            need_ways(way, [reason for reason in states if states[reason] != "cut"], ends)
            shown += price
            for reason in way:
                if reason in left:
                    left[reason] -= price
        need(min(left.values(), default=0) >= 0)
        need(shown >= loss)
    else:
        need(word == "cases")
        reason, first, second = exactly(tuple(rest), tuple, 3)
        need_reason(reason)
        need(states.get(reason) == "open")
        need_case(first, {**states, reason: "held"}, bars, loss)
        need_case(second, {**states, reason: "cut"}, bars, loss)


def check_asks(claim, paper):
    worlds, depth = claim
    names = set()
    for world in exactly(worlds, tuple):
        names |= set(need_sets(world))
    need(1 <= len(worlds) <= 8 and len(set(worlds)) == len(worlds) and len(names) <= 8)
    need_whole(depth, 0)
    plan, table = exactly(paper, tuple, 2)
    need(need_plan(plan, worlds, set(range(len(worlds)))) == depth)
    exactly(table, tuple)
    if depth == 0:
        need(table == ())
        return
    for row in table:
        numbers, many, sides = exactly(row, tuple, 3)
        for number in exactly(numbers, tuple):
            need_whole(number, 0, len(worlds) - 1)
        need(len(numbers) > 1)
        need_rising(numbers)
        need_whole(many, 0)
        for side in exactly(sides, tuple):
            exactly(side, bool)
    rows = [(row[0], row[1]) for row in table]
    need(rows and rows[0] == (tuple(range(len(worlds))), depth - 1))
    for numbers, many, sides in table:
        asks = true_asks(worlds)
        need(len(sides) == (len(asks) if many else 0))
        for at, side in enumerate(sides):
            need((tuple(number for number in numbers if true_answer(worlds[number], asks[at]) is side), many - 1) in rows)


def need_plan(thing, worlds, numbers):
    word, *rest = exactly(thing, tuple) or (None,)
    exactly(word, str)
    if word == "told":
        number, = exactly(tuple(rest), tuple, 1)
        exactly(number, int)
        need(numbers == {number})
        return 0
    need(word == "ask")
    ask, yes, no = exactly(tuple(rest), tuple, 3)
    for part in exactly(ask, tuple):
        exactly(part, str)
    need(ask in true_asks(worlds))
    so = {number for number in numbers if true_answer(worlds[number], ask)}
    need(so and so != numbers)
    return 1 + max(need_plan(yes, worlds, so), need_plan(no, worlds, numbers - so))


def check_steps(claim, paper):
    one, other, steps = claim
    need(need_sets(one) == need_sets(other))
    need(paper is None)
    here = {frozenset(own) for own in one}
    for step in exactly(steps, tuple):
        word, first, second = exactly(step, tuple, 3)
        exactly(word, str)
        need_names(first)
        need_names(second)
        need(first and second and not set(first) & set(second))
        halves, whole = {frozenset(first), frozenset(second)}, {frozenset(first + second)}
        need(word in ("join", "split"))
        ahead, behind = (halves, whole) if word == "join" else (whole, halves)
        need(ahead <= here)
        here = here - ahead | behind
    need(here == {frozenset(own) for own in other})
    need(len(steps) == len(one) + len(other) - 2 * len(slow_groups(one, other)))


def check_moved(claim, paper):
    one, other, many = claim
    names = need_sets(one)
    need(names == need_sets(other))
    exactly(many, int)
    pairs, prices = exactly(paper, tuple, 2)
    stayed = set()
    for pair in exactly(pairs, tuple):
        row, column = exactly(pair, tuple, 2)
        need_whole(row, 0, len(one) - 1)
        need_whole(column, 0, len(other) - 1)
        need(set(one[row]) & set(other[column]))
        stayed |= set(one[row]) & set(other[column])
    need_rising(pairs)
    need(len({pair[0] for pair in pairs}) == len({pair[1] for pair in pairs}) == len(pairs))
    need(many == len(names) - len(stayed))
    rows, columns = exactly(prices, tuple, 2)
    for side, sets in ((rows, one), (columns, other)):
        for price in exactly(side, tuple, len(sets)):
            need_whole(price, 0)
    for (own, price), (each, more) in itertools.product(zip(one, rows), zip(other, columns)):
        need(price + more >= len(set(own) & set(each)))
    need(sum(rows) + sum(columns) == len(stayed))


SORTS = {"one": (check_one, 4), "apart": (check_apart, 4), "holding": (check_holding, 3), "joining": (check_joining, 3),
         "best": (check_best, 3), "asks": (check_asks, 3), "steps": (check_steps, 4), "moved": (check_moved, 4)}


def slow_holds(claim, paper):
    try:
        word = (exactly(claim, tuple) or (None,))[0]
        check, many = SORTS.get(exactly(word, str), (None, None))
        need(check)
        check(exactly(claim, tuple, many)[1:], paper)
    except Refused:
        return False
    return True


def is_true(claim):
    """Whether a claim is true, of a claim whose parts are all written as they should be."""
    word, thing, *rest = claim
    if word in ("one", "apart"):
        return (rest[1] in reach(rest[0], thing[1])) == (word == "one")
    if word == "holding":
        return list(rest[0]) == slow_holding(thing)
    if word == "joining":
        return list(rest[0]) == slow_joining(*thing)[0]
    if word == "best":
        most = max(kept_weight(thing[1], sets) for sets in joinings(thing[0]) if slow_good(thing, sets))
        return slow_good(thing, rest[0]) and kept_weight(thing[1], rest[0]) == most
    if word == "asks":
        return least_depth(thing) == rest[0]
    if word == "steps":
        return slow_distance(list(thing), list(rest[0])) == len(rest[1])
    return sum(map(len, thing)) - slow_most(thing, rest[0]) == rest[1]

"""Claims of all words with the house's papers, and answers held against the check that is written by itself."""

import itertools
import random
import unittest

from graphs import put_in_order, some_grounds
from onefolk.best import best_of
from onefolk.cases import cases_of
from onefolk.checker import holds
from onefolk.holding import holding_of, why_one
from onefolk.joining import joining_of
from onefolk.moved import moved_between
from onefolk.parts import part_of
from onefolk.plans import least_plan, too_few
from onefolk.steps import steps_between
from pairings import some_pairs
from slowholds import slow_holds
from worlds import some_worlds

WORDS = ("one", "apart", "holding", "joining", "best", "asks", "steps", "moved")
# Prices alone are enough for the bar of a and d, and not for those of e, f and g, which all hang on h.
GROUND = (
    ("a", "b", "c", "d", "e", "f", "g", "h", "x", "y"),
    put_in_order([(9, "a", "b", 0), (8, "b", "c", 0), (7, "c", "d", 0), (6, "a", "b", 1), (1, "e", "h", 0), (1, "f", "h", 0),
                  (1, "g", "h", 0), (3, "x", "y", 0), (1, "a", "c", 1)]),
    (("a", "d", 0), ("a", "x", 0), ("e", "f", 0), ("e", "g", 0), ("f", "g", 0)),
)
WORLDS = ((("a",), ("b",)), (("a", "b"),), (), (("b",),))
ONE, OTHER = (("a", "b", "c"), ("d", "e"), ("f",)), (("a", "b"), ("c", "d", "e"), ("f",))


def one_or_apart(ground, one, other):
    way = why_one(ground, one, other)
    if way is None:
        return (("apart", ground, one, other), part_of(ground, one))
    return (("one", ground, one, other), tuple(way))


def holding_paper(ground):
    return (("holding", ground, tuple(holding_of(ground))), None)


def joining_paper(ground):
    sets, kept, barred = joining_of(ground)
    return (("joining", ground, tuple(sets)), (tuple(kept), tuple(barred)))


def best_paper(ground):
    return (("best", ground, tuple(best_of(ground)[0])), cases_of(ground))


def asks_paper(worlds):
    depth, plan = least_plan(worlds)
    return (("asks", worlds, depth), (plan, too_few(worlds, depth - 1) if depth else ()))


def steps_paper(one, other):
    return (("steps", tuple(one), tuple(other), tuple(steps_between(list(one), list(other)))), None)


def moved_paper(one, other):
    pairs, moved, prices = moved_between(list(one), list(other))
    return (("moved", tuple(one), tuple(other), len(moved)), (tuple(pairs), prices))


def ground_papers(ground):
    pairs = [one_or_apart(ground, one, other) for one, other in itertools.product(ground[0], repeat=2)]
    return pairs + [holding_paper(ground), joining_paper(ground), best_paper(ground)]


def house_papers(seed, many):
    """Claims of all words with the house's papers, of so many grounds, worlds and joinings."""
    chance = random.Random(seed)
    found = []
    for ground in some_grounds(seed, many):
        papers = ground_papers(ground)
        found += papers[-3:] + chance.sample(papers[:-3], min(len(papers) - 3, 4))
    for one, other in some_pairs(chance, many):
        found += [asks_paper(some_worlds(chance, most_worlds=6, most_names=3)), steps_paper(one, other),
                  moved_paper(one, other)]
    return found


# One claim of each word with the house's paper, each with something of all that can stand in it.
HOUSE = {
    "one": one_or_apart(GROUND, "a", "d"), "apart": one_or_apart(GROUND, "b", "x"), "holding": holding_paper(GROUND),
    "joining": joining_paper(GROUND), "best": best_paper(GROUND), "asks": asks_paper(WORLDS),
    "steps": steps_paper(ONE, OTHER), "moved": moved_paper(ONE, OTHER),
}


class Held(unittest.TestCase):
    def hold(self, claim, paper):
        """Holds the answer against the check that is written by itself, and tells it."""
        told = holds(claim, paper)
        self.assertIs(told, slow_holds(claim, paper), (claim, paper))
        return told

    def taken(self, claim, paper):
        self.assertIs(self.hold(claim, paper), True, (claim, paper))

    def not_taken(self, claim, paper):
        self.assertIs(self.hold(claim, paper), False, (claim, paper))

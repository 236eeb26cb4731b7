import itertools
import random
import unittest

from anything import ODD_THINGS, Plain, Sly, nested
from goodness import joinings, large_part, slow_good
from graphs import chain, ring, some_grounds
from house import (GROUND, HOUSE, ONE, OTHER, WORDS, Held, asks_paper, best_paper, ground_papers, holding_paper,
                   house_papers, joining_paper, moved_paper, one_or_apart, steps_paper)
from onefolk.checker import holds
from onefolk.holding import why_one
from onefolk.plans import too_few
from pairings import OTHER_NAMES, some_joining, some_pairs
from slowholds import is_true, slow_holds
from spoiling import spoilt_somewhere, spoilt_things
from worlds import some_worlds


class HouseTest(Held):
    def test_each_word(self):
        self.assertEqual(tuple(HOUSE), WORDS)
        for word, (claim, paper) in HOUSE.items():
            self.assertEqual(claim[0], word)
            self.taken(claim, paper)

    def test_nobody(self):
        empty = ((), (), ())
        self.taken(("holding", empty, ()), None)
        self.taken(("joining", empty, ()), ((), ()))
        self.taken(("best", empty, ()), ())
        self.taken(("asks", ((),), 0), (("told", 0), ()))
        self.taken(("steps", (), (), ()), None)
        self.taken(("moved", (), (), 0), ((), ((), ())))

    def test_every_paper_of_some_grounds(self):
        words = []
        for ground in some_grounds(161, 250) + [GROUND]:
            for claim, paper in ground_papers(ground):
                self.taken(claim, paper)
                words.append(claim[0])
        self.assertGreater(min(words.count(word) for word in WORDS[:5]), 200)

    def test_large_grounds(self):
        for ground in (ring(30), chain(30)):
            names = ground[0]
            for claim, paper in (one_or_apart(ground, names[0], names[-1]), one_or_apart(ground, names[15], names[3]),
                                 holding_paper(ground), joining_paper(ground), best_paper(ground)):
                self.taken(claim, paper)
        chance = random.Random(162)
        for most in (1, 3, 1000):
            for bars in (1, 6, 28):
                for _ in range(4):
                    self.taken(*best_paper(large_part(chance, most_weight=most, bars=bars)))

    def test_some_worlds(self):
        chance = random.Random(163)
        for _ in range(250):
            self.taken(*asks_paper(some_worlds(chance)))

    def test_eight_worlds_that_need_seven(self):
        worlds = tuple((("a",),) if at == 7 else (("a", "bcdefgh"[at]),) for at in range(8))
        claim, paper = asks_paper(worlds)
        self.assertEqual(claim[2], 7)
        self.taken(claim, paper)

    def test_some_joinings(self):
        for one, other in some_pairs(random.Random(164), 300):
            self.taken(*steps_paper(one, other))
            self.taken(*moved_paper(one, other))

    def test_joinings_of_seventeen_and_thirty_names(self):
        chance = random.Random(165)
        names = [one + other for one in "abc" for other in "abcdefghij"]
        for many in (17, 30):
            for most in (1, 4, 30):
                one, other = some_joining(chance, names[:many], most), some_joining(chance, names[:many], 6)
                self.taken(*steps_paper(one, other))
                self.taken(*moved_paper(one, other))


class SpoiltTest(Held):
    """Claims and papers with one place spoilt, each held against the check that is written by itself."""

    def test_each_place_of_one_of_each_word(self):
        for word, (claim, paper) in HOUSE.items():
            told = [self.hold(spoilt, paper) for spoilt in spoilt_things(claim)]
            told += [self.hold(claim, spoilt) for spoilt in spoilt_things(paper)]
            self.assertGreater(told.count(False), 100, word)

    def test_some_places_of_many(self):
        chance = random.Random(171)
        counts = {(word, told): 0 for word in WORDS for told in (True, False)}
        for claim, paper in house_papers(172, 300):
            for _ in range(8):
                spoilt = spoilt_somewhere(chance, claim)
                told = self.hold(spoilt, paper)
                counts[claim[0], told] += 1
                if told:
                    self.assertTrue(is_true(spoilt), (spoilt, paper))
                told = self.hold(claim, spoilt_somewhere(chance, paper))
                counts[claim[0], told] += 1
        for word in WORDS:
            self.assertGreater(counts[word, False], 1000, counts)
            self.assertGreater(counts[word, True], 0, counts)

    def test_two_places(self):
        chance = random.Random(173)
        for claim, paper in house_papers(174, 100):
            for _ in range(4):
                self.hold(spoilt_somewhere(chance, claim), spoilt_somewhere(chance, paper))
                self.hold(claim, spoilt_somewhere(chance, spoilt_somewhere(chance, paper)))

    def test_papers_of_other_claims(self):
        chance = random.Random(175)
        papers = house_papers(176, 60)
        for claim, paper in papers:
            for other, more in chance.sample(papers, 30):
                if self.hold(claim, more):
                    self.assertTrue(is_true(claim))

    def test_parts_too_many_and_too_few(self):
        for claim, paper in HOUSE.values():
            for at in range(len(claim)):
                self.not_taken(claim[:at], paper)
            for more in (None, (), claim[-1], paper, "a", 0):
                self.not_taken(claim + (more,), paper)

    def test_other_words(self):
        for claim, paper in HOUSE.values():
            for word in WORDS + ("", "One", "two", "bests", "hold"):
                if word != claim[0]:
                    self.not_taken((word,) + claim[1:], paper)


class FalseTest(Held):
    """Claims that are false, with whatever papers."""

    def never(self, claim, papers):
        self.assertFalse(is_true(claim), claim)
        for paper in papers:
            self.not_taken(claim, paper)

    def test_one_and_apart(self):
        for ground in some_grounds(181, 100, most_names=4, most_reasons=4):
            names, reasons, bars = ground
            ways = [way for many in range(4) for way in itertools.permutations(reasons, many)]
            sets = [own for many in range(5) for own in itertools.combinations(names, many)]
            for one, other in itertools.product(names, repeat=2):
                if why_one(ground, one, other) is None:
                    self.never(("one", ground, one, other), ways)
                    self.assertTrue(any(self.hold(("apart", ground, one, other), own) for own in sets))
                else:
                    self.never(("apart", ground, one, other), sets)
                    self.assertTrue(any(self.hold(("one", ground, one, other), way) for way in ways))

    def test_names_that_are_not_there(self):
        for one, other in (("a", "z"), ("z", "a"), ("z", "z"), ("zz", "z")):
            for paper in ((), ("a",), GROUND[0], GROUND[1], GROUND[1][:1], ("z",), GROUND[0] + ("z",)):
                self.not_taken(("one", GROUND, one, other), paper)
                self.not_taken(("apart", GROUND, one, other), paper)

    def test_holding(self):
        for ground in some_grounds(182, 60, most_reasons=5):
            for many in range(len(ground[1]) + 1):
                for some in itertools.combinations(ground[1], many):
                    self.assertIs(self.hold(("holding", ground, some), None), is_true(("holding", ground, some)))
                    for other in (some + some[:1], some[::-1] if many > 1 else list(some)):
                        if other:
                            self.not_taken(("holding", ground, other), None)

    def test_joining(self):
        for ground in some_grounds(183, 60, most_names=4):
            paper = joining_paper(ground)[1]
            for sets in joinings(ground[0]):
                claim = ("joining", ground, tuple(sets))
                self.assertIs(self.hold(claim, paper), is_true(claim))

    def test_best(self):
        tried = 0
        for ground in some_grounds(184, 150, most_names=5):
            paper = best_paper(ground)[1]
            for sets in joinings(ground[0]):
                claim = ("best", ground, tuple(sets))
                if not is_true(claim):
                    tried += slow_good(ground, sets)
                    self.never(claim, [paper, (), paper[1:], paper + paper[:1]])
                    self.never(claim, [paper[:at] + (("prices", ()),) + paper[at + 1:] for at in range(len(paper))])
                else:
                    # Another joining that is as good is taken with the same cases.
                    self.taken(claim, paper)
        self.assertGreater(tried, 200)

    def test_asks(self):
        chance = random.Random(185)
        for _ in range(150):
            worlds = some_worlds(chance, most_worlds=6, most_names=3)
            claim, (plan, table) = asks_paper(worlds)
            tables = [table, (), table[1:]] + [too_few(worlds, many) for many in range(len(worlds))]
            for depth in range(-2, len(worlds) + 2):
                if depth != claim[2]:
                    self.never(("asks", worlds, depth), [(plan, some) for some in tables])

    def test_asks_with_a_deeper_plan(self):
        # The plan settles all, but one ask less would, too; so there is no table.
        worlds = tuple(tuple((name,) for bit, name in enumerate("ab") if number >> bit & 1) for number in range(4))
        plan = ("ask", ("one", "a", "b"), ("told", 3), ("told", 0))
        deep = ("ask", ("stands", "a"), ("ask", ("stands", "b"), ("told", 3), ("told", 1)),
                ("ask", ("stands", "b"), ("told", 2), ("told", 0)))
        self.taken(("asks", worlds, 2), (deep, too_few(worlds, 1)))
        for table in (too_few(worlds, 1), too_few(worlds, 0), (), too_few(worlds[:3], 1)):
            self.never(("asks", worlds, 3), [(deep, table)])
            self.never(("asks", worlds, 1), [(deep, table), (plan, table)])

    def test_steps(self):
        for one, other in some_pairs(random.Random(186), 100, most_names=4):
            claim = steps_paper(one, other)[0]
            steps = claim[3]
            self.not_taken(claim[:2] + claim[2:], ())
            if steps:
                self.not_taken(claim[:3] + (steps[1:],), None)
                self.not_taken(claim[:3] + (steps[:-1],), None)
                self.never(claim[:3] + (steps + (steps[-1],),), [None])
            # A way that isn't a least one, though each step can be done.
            for own in other:
                if len(own) > 1:
                    halves = (own[:1], own[1:])
                    self.never(claim[:3] + (steps + (("split",) + halves, ("join",) + halves),), [None])

    def test_moved(self):
        for one, other in some_pairs(random.Random(187), 150):
            claim, (pairs, prices) = moved_paper(one, other)
            for many in range(-1, 9):
                if many != claim[3]:
                    self.never(claim[:3] + (many,), [(pairs, prices)] + [(pairs[1:], prices), ((), prices)])

    def test_joinings_of_other_names(self):
        for one, other, name in OTHER_NAMES:
            one, other = tuple(one), tuple(other)
            for steps in ((), (("join", ("a",), ("b",)),)):
                self.not_taken(("steps", one, other, steps), None)
            for many in range(4):
                self.not_taken(("moved", one, other, many), ((), ((0,) * len(one), (0,) * len(other))))


def nest(make, depth, thing):
    for _ in range(depth):
        thing = make(thing)
    return thing


class AnyKindTest(unittest.TestCase):
    THINGS = ODD_THINGS + ["", "one", "best", "a" * 50, (), ("one",), ("best", GROUND), GROUND, (GROUND,), HOUSE,
                           HOUSE["best"]]

    def test_claims_and_papers(self):
        for thing in self.THINGS:
            for other in self.THINGS:
                self.assertIs(holds(thing, other), False)

    def test_claims_with_the_papers_of_others(self):
        for claim, paper in HOUSE.values():
            for thing in self.THINGS:
                self.assertIs(holds(thing, paper), False)
                self.assertIs(holds(claim, thing), claim[0] in ("holding", "steps") and thing is None)

    def test_some_parts_of_a_claim_or_a_paper(self):
        for claim, paper in HOUSE.values():
            for thing in self.THINGS:
                for place in places_of(claim, 3, 3):
                    self.hold(exchanged(claim, place, thing), paper)
                for place in places_of(paper, 3, 3):
                    self.hold(claim, exchanged(paper, place, thing))

    def test_each_part_of_a_claim_or_a_paper(self):
        for claim, paper in HOUSE.values():
            for thing in (Sly(), (Sly(), Sly()), nested(lambda x: (x, x), 500), nested(lambda x: [x], 500), Plain()):
                for place in places_of(claim):
                    self.assertIs(self.hold(exchanged(claim, place, thing), paper), False)
                for place in places_of(paper):
                    self.assertIs(self.hold(claim, exchanged(paper, place, thing)), False)

    def hold(self, claim, paper):
        """Holds the answer against the check that is written by itself, and shows nothing, which may be too wide."""
        told = holds(claim, paper)
        self.assertIs(told, slow_holds(claim, paper))
        return told

    def test_things_alike_to_everything_for_names(self):
        for thing in (Sly(), [Sly()], {"a": 1}, ["a"], ("a",), None, 5):
            for one, other in ((thing, "a"), ("a", thing), (thing, thing)):
                for paper in ((), ("a",), GROUND[1][:1], (thing,), ("a", "b", "c", "d")):
                    self.assertIs(holds(("one", GROUND, one, other), paper), False)
                    self.assertIs(holds(("apart", GROUND, one, other), paper), False)

    def test_things_five_hundred_deep(self):
        claim, paper = HOUSE["best"]
        reason = GROUND[1][0]
        asks_claim, (plan, table) = HOUSE["asks"]
        ask = ("stands", "a")
        for depth in (10, 165, 498):
            for make in (lambda x: ("cases", reason, x, x), lambda x: ("cases", reason, x, ("prices", ())),
                         lambda x: ("cases", reason, ("shut", ()), x), lambda x: (x,), lambda x: (x, x), lambda x: [x],
                         lambda x: {"cases": x}, lambda x: ("shut", x), lambda x: ("prices", x),
                         lambda x: ("ask", ask, x, x), lambda x: ("ask", ask, ("told", 0), x),
                         lambda x: ("ask", ask, x, ("told", 0)), lambda x: ("ask", x, ("told", 0), ("told", 1)),
                         lambda x: ("told", x), lambda x: ("one", x, "a", "b"), lambda x: (x, 0, ())):
                for end in (None, (), ("prices", ()), ("told", 0), paper[0], plan):
                    deep = nest(make, depth, end)
                    for case in (deep, (deep,), (deep, paper[1]), (paper[0], deep)):
                        self.assertIs(holds(claim, case), False)
                    self.assertIs(holds(asks_claim, (deep, table)), False)
                    self.assertIs(holds(asks_claim, (plan, deep)), False)
                    self.assertIs(holds(deep, deep), False)
                    for word in WORDS:
                        self.assertIs(holds((word, deep, deep), deep), False)
                        self.assertIs(holds((word, deep, deep, deep), deep), False)

    def test_cases_of_all_reasons_one_within_the_other(self):
        claim, paper = HOUSE["best"]
        case = None
        for at in range(498):
            case = ("cases", GROUND[1][at % len(GROUND[1])], case, case)
        self.assertIs(holds(claim, (case, case)), False)

    def test_odd_things_within_tuples(self):
        for thing in ODD_THINGS:
            for word in WORDS:
                self.assertIs(holds((word, (thing,), (thing,)), (thing,)), False)
                self.assertIs(holds((word, (thing,), (thing,), (thing,)), (thing,)), False)
                self.assertIs(holds((word, (thing, thing, thing), thing, thing), (thing, thing)), False)
            self.assertIs(holds((thing, GROUND, "a", "b"), ()), False)


def places_of(thing, deep=100, wide=100, place=()):
    """The places of all things within a thing, no deeper than this, and of each tuple no more than so many."""
    yield place
    if type(thing) is tuple and len(place) < deep:
        for at in range(min(len(thing), wide)):
            yield from places_of(thing[at], deep, wide, place + (at,))


def exchanged(whole, place, thing):
    if not place:
        return thing
    at = place[0]
    return whole[:at] + (exchanged(whole[at], place[1:], thing),) + whole[at + 1:]


class AgainTest(unittest.TestCase):
    def test_told_again_the_same(self):
        for claim, paper in HOUSE.values():
            self.assertEqual([holds(claim, paper), holds(claim, 5), holds(claim, paper)], [True, False, True])

    def test_lists_that_are_handed_in_are_not_changed(self):
        claim, paper = HOUSE["moved"]
        one, pairs = list(ONE), list(paper[0])
        self.assertIs(holds(("moved", one, OTHER, 1), (pairs, paper[1])), False)
        self.assertEqual((one, pairs), (list(ONE), list(paper[0])))


if __name__ == "__main__":
    unittest.main()

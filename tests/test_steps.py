import copy
import random
import unittest

from anything import ODD_THINGS
from goodness import joinings
from onefolk.errors import NoName, NoStep
from onefolk.steps import behind_step, groups_of, steps_between
from pairings import OTHER_NAMES, neighbours, slow_distance, slow_groups, some_joining, some_pairs

LETTERS = "abcdefghijklmnopq"


class GroupsTest(unittest.TestCase):
    def test_no_names(self):
        self.assertEqual(groups_of([], []), [])

    def test_the_same_joining(self):
        self.assertEqual(groups_of([("a", "c"), ("b",)], [("a", "c"), ("b",)]),
                         [("kept", (("a", "c"),), (("a", "c"),)), ("kept", (("b",),), (("b",),))])

    def test_each_word(self):
        one = [("a", "d"), ("b",), ("c", "e"), ("f",), ("g", "h"), ("i", "j")]
        other = [("a",), ("b", "f"), ("c", "e"), ("d",), ("g", "i"), ("h",), ("j",)]
        self.assertEqual(groups_of(one, other), [
            ("split", (("a", "d"),), (("a",), ("d",))),
            ("joined", (("b",), ("f",)), (("b", "f"),)),
            ("kept", (("c", "e"),), (("c", "e"),)),
            ("mixed", (("g", "h"), ("i", "j")), (("g", "i"), ("h",), ("j",))),
        ])

    def test_the_other_way_about(self):
        self.assertEqual(groups_of([("a",), ("b",)], [("a", "b")]), [("joined", (("a",), ("b",)), (("a", "b"),))])
        self.assertEqual(groups_of([("a", "b")], [("a",), ("b",)]), [("split", (("a", "b"),), (("a",), ("b",)))])

    def test_sets_that_lead_from_one_to_the_next(self):
        one = [("a", "b"), ("c", "d"), ("e", "f")]
        other = [("a",), ("b", "c"), ("d", "e"), ("f",)]
        self.assertEqual(groups_of(one, other), [("mixed", tuple(one), tuple(other))])

    def test_some_joinings(self):
        words = {"kept": 0, "split": 0, "joined": 0, "mixed": 0}
        for one, other in some_pairs(random.Random(121), 400):
            told = groups_of(one, other)
            self.assertIs(type(told), list)
            self.assertEqual([tuple(sorted(sum(group[1], ()))) for group in told], slow_groups(one, other))
            self.assertEqual(sorted(own for group in told for own in group[1]), one)
            self.assertEqual(sorted(own for group in told for own in group[2]), other)
            for word, ones, others in told:
                self.assertEqual((ones, others), (tuple(sorted(ones)), tuple(sorted(others))))
                self.assertEqual(sorted(sum(ones, ())), sorted(sum(others, ())))
                few = (len(ones) == 1, len(others) == 1)
                self.assertEqual(word, {(True, True): "kept", (True, False): "split", (False, True): "joined",
                                        (False, False): "mixed"}[few])
                words[word] += 1
        self.assertGreater(min(words.values()), 20, words)

    def test_other_names(self):
        for one, other, name in OTHER_NAMES:
            with self.assertRaises(NoName) as caught:
                groups_of(one, other)
            self.assertEqual(caught.exception.name, name)

    def test_what_is_told_is_the_askers_own(self):
        one, other = [("a", "b")], [("a",), ("b",)]
        kept = copy.deepcopy(groups_of(one, other))
        groups_of(one, other).clear()
        self.assertEqual(groups_of(one, other), kept)
        self.assertEqual((one, other), ([("a", "b")], [("a",), ("b",)]))


class StepsTest(unittest.TestCase):
    def hold(self, one, other):
        told = steps_between(one, other)
        self.assertIs(type(told), list)
        here = one
        for step in told:
            here = behind_step(here, step)
        self.assertEqual(here, other)
        self.assertEqual(len(told), len(one) + len(other) - 2 * len(slow_groups(one, other)))
        return len(told)

    def test_the_same_joining(self):
        for sets in ([], [("a",)], [("a", "c"), ("b",)]):
            self.assertEqual(steps_between(sets, list(sets)), [])

    def test_one_step(self):
        for step in steps_between([("a", "c"), ("b",)], [("a", "b", "c")]):
            self.assertEqual((step[0], set(step[1:])), ("join", {("a", "c"), ("b",)}))
        for step in steps_between([("a", "b", "c")], [("a", "c"), ("b",)]):
            self.assertEqual((step[0], set(step[1:])), ("split", {("a", "c"), ("b",)}))
        self.assertEqual(self.hold([("a", "c"), ("b",)], [("a", "b", "c")]), 1)
        self.assertEqual(self.hold([("a", "b", "c")], [("a", "c"), ("b",)]), 1)

    def test_a_name_that_goes_over(self):
        self.assertEqual(self.hold([("a", "b"), ("c",)], [("a",), ("b", "c")]), 2)

    def test_many_sets(self):
        alone = [(name,) for name in LETTERS]
        whole = [tuple(LETTERS)]
        self.assertEqual(self.hold(alone, whole), 16)
        self.assertEqual(self.hold(whole, alone), 16)
        self.assertEqual(self.hold(alone, alone), 0)

    def test_against_a_slow_search(self):
        for one, other in some_pairs(random.Random(122), 150, most_names=4):
            self.assertEqual(self.hold(one, other), slow_distance(one, other))

    def test_some_joinings(self):
        for one, other in some_pairs(random.Random(123), 300):
            self.hold(one, other)

    def test_seventeen_names(self):
        chance = random.Random(124)
        for _ in range(20):
            self.hold(some_joining(chance, LETTERS, 7), some_joining(chance, LETTERS, 7))

    def test_other_names(self):
        for one, other, name in OTHER_NAMES:
            with self.assertRaises(NoName) as caught:
                steps_between(one, other)
            self.assertEqual(caught.exception.name, name)

    def test_what_is_told_is_the_askers_own(self):
        one, other = [("a", "b"), ("c",)], [("a",), ("b", "c")]
        kept = copy.deepcopy(steps_between(one, other))
        steps_between(one, other).clear()
        self.assertEqual(steps_between(one, other), kept)
        self.assertEqual((one, other), ([("a", "b"), ("c",)], [("a",), ("b", "c")]))


class BehindStepTest(unittest.TestCase):
    SETS = [("a", "d"), ("b",), ("c", "e", "f")]

    def test_join(self):
        for one, other, behind in ((("a", "d"), ("b",), [("a", "b", "d"), ("c", "e", "f")]),
                                   (("b",), ("c", "e", "f"), [("a", "d"), ("b", "c", "e", "f")]),
                                   (("c", "e", "f"), ("a", "d"), [("a", "c", "d", "e", "f"), ("b",)])):
            self.assertEqual(behind_step(self.SETS, ("join", one, other)), behind)
            self.assertEqual(behind_step(self.SETS, ("join", other, one)), behind)

    def test_split(self):
        for one, other, behind in ((("a",), ("d",), [("a",), ("b",), ("c", "e", "f"), ("d",)]),
                                   (("c", "f"), ("e",), [("a", "d"), ("b",), ("c", "f"), ("e",)]),
                                   (("c",), ("e", "f"), [("a", "d"), ("b",), ("c",), ("e", "f")])):
            self.assertEqual(behind_step(self.SETS, ("split", one, other)), behind)
            self.assertEqual(behind_step(self.SETS, ("split", other, one)), behind)

    def test_every_step_of_some_joinings(self):
        for sets in joinings("abcd"):
            found = []
            for at, own in enumerate(sets):
                found += [behind_step(sets, ("join", own, other)) for other in sets[at + 1:]]
                found += [behind_step(sets, ("split", *halves)) for halves in joinings(own) if len(halves) == 2]
            self.assertEqual(sorted(found), sorted(neighbours(sets)))

    def refused(self, thing, sets=None):
        sets = self.SETS if sets is None else sets
        ahead = copy.deepcopy(sets)
        with self.assertRaises(NoStep):
            behind_step(sets, thing)
        self.assertEqual(sets, ahead)

    def test_sets_that_are_not_there(self):
        for one, other in ((("a",), ("b",)), (("b",), ("x",)), (("a", "d"), ("c", "e")), (("b", "d"), ("a",)), (("x",), ("y",)),
                           (("a", "b", "d"), ("c", "e", "f"))):
            self.refused(("join", one, other))
            self.refused(("join", other, one))
        self.refused(("join", ("a",), ("b",)), [])

    def test_a_set_with_itself(self):
        for own in self.SETS:
            self.refused(("join", own, own))
            self.refused(("split", own, own))

    def test_a_split_that_is_not_whole(self):
        for one, other in ((("c",), ("e",)), (("c", "e"), ("e", "f")), (("c", "e", "f"), ("c",)), (("c", "e"), ("b", "f")),
                           (("a",), ("b",)), (("a", "d"), ("b",)), (("a",), ("d", "x")), (("x",), ("y",))):
            self.refused(("split", one, other))
            self.refused(("split", other, one))

    def test_an_empty_side(self):
        for own in self.SETS + [()]:
            for word in ("join", "split"):
                self.refused((word, own, ()))
                self.refused((word, (), own))

    def test_other_words(self):
        for word in ODD_THINGS + ["", "joins", "Join", "kept", "split ", b"join", ("join",), ["join"]]:
            self.refused((word, ("a", "d"), ("b",)))
            self.refused((word, ("a",), ("d",)))

    def test_the_word_of_the_other_sort(self):
        self.refused(("split", ("a", "d"), ("b",)))
        self.refused(("join", ("a",), ("d",)))

    def test_lists_and_other_lengths(self):
        for thing in (["join", ("a", "d"), ("b",)], ("join", ["a", "d"], ("b",)), ("join", ("a", "d"), ["b"]),
                      ("split", ["a"], ("d",)), ("split", ("a",), ["d"]), ("join", ("a", "d")), ("join",), (),
                      ("join", ("a", "d"), ("b",), ("c", "e", "f")), ("split", ("c",), ("e",), ("f",)), ("join", "b", ("a", "d")),
                      ("split", "a", "d"), ("split", ("a", "d")), (("a", "d"), ("b",))):
            self.refused(thing)

    def test_sets_that_do_not_rise(self):
        for thing in (("join", ("d", "a"), ("b",)), ("split", ("f", "c"), ("e",)), ("split", ("e",), ("f", "c")),
                      ("split", ("c", "c"), ("e", "f")), ("join", ("a", "a", "d"), ("b",))):
            self.refused(thing)

    def test_things_of_any_kind(self):
        for thing in ODD_THINGS:
            self.refused(thing)
            for word in ("join", "split"):
                for own in (("b",), ("a", "d"), ("a",)):
                    self.refused((word, thing, own))
                    self.refused((word, own, thing))
                    self.refused((word, (thing,), own))
                    self.refused((word, own, ("a", thing)))
                self.refused((word, thing, thing))

    def test_what_is_told_is_the_askers_own(self):
        sets = [("a",), ("b",)]
        told = behind_step(sets, ("join", ("a",), ("b",)))
        told.append("x")
        self.assertEqual(sets, [("a",), ("b",)])
        self.assertEqual(behind_step(sets, ("join", ("a",), ("b",))), [("a", "b")])


if __name__ == "__main__":
    unittest.main()

import copy
import itertools
import random
import unittest

from onefolk.errors import NoName
from onefolk.moved import moved_between
from pairings import OTHER_NAMES, slow_most, some_joining, some_pairs

LETTERS = "abcdefghijklmnopq"


class MovedTest(unittest.TestCase):
    def hold(self, one, other):
        told = moved_between(one, other)
        self.assertIs(type(told), tuple)
        pairs, moved, prices = told
        self.assertIs(type(pairs), list)
        self.assertIs(type(moved), list)
        self.assertEqual(pairs, sorted(pairs))
        for place in (0, 1):
            self.assertEqual(len({pair[place] for pair in pairs}), len(pairs))
        stayed = [set(one[row]) & set(other[column]) for row, column in pairs]
        self.assertTrue(all(stayed))
        names = sorted(name for own in one for name in own)
        self.assertEqual(moved, [name for name in names if not any(name in own for own in stayed)])
        self.assertIs(type(prices), tuple)
        self.assertEqual([type(side) for side in prices], [tuple, tuple])
        self.assertEqual([len(side) for side in prices], [len(one), len(other)])
        self.assertTrue(all(type(price) is int and price >= 0 for side in prices for price in side), prices)
        for (own, price), (each, more) in itertools.product(zip(one, prices[0]), zip(other, prices[1])):
            self.assertGreaterEqual(price + more, len(set(own) & set(each)))
        self.assertEqual(sum(prices[0]) + sum(prices[1]), sum(len(own) for own in stayed))
        return len(moved)

    def test_no_names(self):
        self.assertEqual(moved_between([], []), ([], [], ((), ())))

    def test_the_same_joining(self):
        sets = [("a", "c"), ("b",), ("d", "e", "f")]
        self.assertEqual(moved_between(sets, list(sets))[:2], ([(0, 0), (1, 1), (2, 2)], []))
        self.assertEqual(self.hold(sets, sets), 0)

    def test_one_name_that_goes_over(self):
        one, other = [("a", "b", "c"), ("d", "e")], [("a", "b"), ("c", "d", "e")]
        self.assertEqual(moved_between(one, other)[:2], ([(0, 0), (1, 1)], ["c"]))
        self.assertEqual(self.hold(one, other), 1)

    def test_sets_of_other_places(self):
        one, other = [("a", "x", "y"), ("b",)], [("a", "b"), ("x", "y")]
        self.assertEqual(moved_between(one, other)[:2], ([(0, 1), (1, 0)], ["a"]))
        self.assertEqual(self.hold(one, other), 1)

    def test_more_sets_on_either_side(self):
        one, other = [("a", "b", "c", "d")], [("a",), ("b", "c"), ("d",)]
        self.assertEqual(moved_between(one, other)[:2], ([(0, 1)], ["a", "d"]))
        self.assertEqual(moved_between(other, one)[:2], ([(1, 0)], ["a", "d"]))
        self.assertEqual((self.hold(one, other), self.hold(other, one)), (2, 2))

    def test_sets_that_share_nothing_are_no_pair(self):
        one, other = [("a",), ("b", "c", "d")], [("a", "b"), ("c",), ("d",)]
        self.hold(one, other)
        for sets in ([("a", "b"), ("c",)], [("a",), ("b",), ("c",)]):
            whole = [("a", "b", "c")]
            self.assertEqual(len(moved_between(whole, sets)[0]), 1)
            self.assertEqual(len(moved_between(sets, whole)[0]), 1)

    def test_where_the_largest_share_is_not_in_the_best_pairs(self):
        # a-c with a-c shares 3, but the two pairs beside it share 2 and 2.
        one = [("a", "b", "c", "d", "e"), ("f", "g")]
        other = [("a", "b", "c", "f", "g"), ("d", "e")]
        self.assertEqual(moved_between(one, other)[:2], ([(0, 1), (1, 0)], ["a", "b", "c"]))
        self.assertEqual(self.hold(one, other), 3)

    def test_against_a_slow_search(self):
        for one, other in some_pairs(random.Random(131), 400):
            names = sum(len(own) for own in one)
            self.assertEqual(self.hold(one, other), names - slow_most(one, other))

    def test_larger_joinings_against_a_slow_search(self):
        chance = random.Random(132)
        for _ in range(60):
            one, other = some_joining(chance, LETTERS, 5), some_joining(chance, LETTERS, 6)
            self.assertEqual(self.hold(one, other), 17 - slow_most(one, other))
            self.assertEqual(self.hold(other, one), 17 - slow_most(one, other))

    def test_seventeen_names(self):
        chance = random.Random(133)
        alone, whole = [(name,) for name in LETTERS], [tuple(LETTERS)]
        self.assertEqual(self.hold(alone, alone), 0)
        self.assertEqual(self.hold(alone, whole), 16)
        self.assertEqual(self.hold(whole, alone), 16)
        for most in (3, 8, 17):
            for _ in range(15):
                self.hold(some_joining(chance, LETTERS, most), some_joining(chance, LETTERS, chance.randrange(1, 18)))

    def test_other_names(self):
        for one, other, name in OTHER_NAMES:
            with self.assertRaises(NoName) as caught:
                moved_between(one, other)
            self.assertEqual(caught.exception.name, name)

    def test_what_is_told_is_the_askers_own(self):
        one, other = [("a", "b", "c"), ("d", "e")], [("a", "b"), ("c", "d", "e")]
        kept = copy.deepcopy(moved_between(one, other))
        told = moved_between(one, other)
        told[0].clear()
        told[1].clear()
        self.assertEqual(moved_between(one, other), kept)
        self.assertEqual((one, other), ([("a", "b", "c"), ("d", "e")], [("a", "b"), ("c", "d", "e")]))


if __name__ == "__main__":
    unittest.main()

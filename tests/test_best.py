import copy
import itertools
import random
import unittest

from goodness import joinings, kept_weight, large_part, most_weight, slow_good
from graphs import chain, put_in_order, ring, some_grounds, true_parts
from onefolk.best import best_of, is_good
from onefolk.cases import cases_of
from onefolk.errors import NoRoom
from onefolk.joining import joining_of
from onefolk.parts import parts_of

# The told joining keeps the 9 alone; the best one gives it up for 8 and 7.
GREEDY = (("a", "b", "c", "d"), ((9, "b", "c", 0), (8, "a", "b", 0), (7, "c", "d", 0)), (("a", "c", 1), ("b", "d", 1)))


def slow_best(ground):
    """The most weight that a good joining keeps, sought among all rows of kept reasons."""
    names, reasons, bars = ground
    best = 0
    for many in range(len(reasons) + 1):
        for some in itertools.combinations(reasons, many):
            sets = true_parts(names, some)
            if not any(bar[0] in own and bar[1] in own for bar in bars for own in sets):
                best = max(best, kept_weight(reasons, sets))
    return best


class GoodTest(unittest.TestCase):
    def test_no_names(self):
        self.assertIs(is_good(((), (), ()), []), True)

    def test_a_bar_within_a_set(self):
        ground = (("a", "b", "c"), ((5, "a", "b", 0), (5, "b", "c", 0)), (("a", "c", 0),))
        self.assertIs(is_good(ground, [("a", "b", "c")]), False)
        self.assertIs(is_good(ground, [("a", "b"), ("c",)]), True)
        self.assertIs(is_good(ground, [("a",), ("b", "c")]), True)
        self.assertIs(is_good(ground, [("a",), ("b",), ("c",)]), True)

    def test_a_set_that_does_not_hang_together_by_itself(self):
        ground = (("a", "b", "c", "d"), ((5, "a", "b", 0), (5, "b", "c", 0)), ())
        self.assertIs(is_good(ground, [("a", "b", "c"), ("d",)]), True)
        self.assertIs(is_good(ground, [("a", "b", "c", "d")]), False)
        self.assertIs(is_good(ground, [("a", "c"), ("b",), ("d",)]), False)
        self.assertIs(is_good(ground, [("a", "b"), ("c", "d")]), False)
        self.assertIs(is_good(ground, [("a",), ("b", "c"), ("d",)]), True)

    def test_every_joining_of_some_grounds(self):
        told = {True: 0, False: 0}
        for ground in some_grounds(61, 150, most_names=5):
            for sets in joinings(ground[0]):
                self.assertIs(is_good(ground, sets), slow_good(ground, sets))
                told[is_good(ground, sets)] += 1
        self.assertGreater(min(told.values()), 200)

    def test_the_told_joining_and_the_parts(self):
        for ground in some_grounds(62, 100):
            self.assertIs(is_good(ground, joining_of(ground)[0]), True)
            self.assertIs(is_good((ground[0], ground[1], ()), parts_of(ground)), True)


class BestTest(unittest.TestCase):
    def hold(self, ground):
        told = best_of(ground)
        self.assertIs(type(told), tuple)
        sets, kept, lost = told
        self.assertIs(type(sets), list)
        self.assertEqual(sets, sorted(tuple(sorted(own)) for own in sets))
        self.assertEqual(sorted(name for own in sets for name in own), list(ground[0]))
        self.assertTrue(slow_good(ground, sets))
        self.assertEqual(kept, kept_weight(ground[1], sets))
        self.assertEqual(kept + lost, sum(reason[0] for reason in ground[1]))
        return kept

    def test_no_names_and_no_reasons(self):
        self.assertEqual(best_of(((), (), ())), ([], 0, 0))
        self.assertEqual(best_of((("a", "b"), (), (("a", "b", 0),))), ([("a",), ("b",)], 0, 0))

    def test_without_bars(self):
        for ground in some_grounds(63, 100) + [ring(30), chain(30)]:
            ground = (ground[0], ground[1], ())
            self.assertEqual(best_of(ground), (parts_of(ground), sum(reason[0] for reason in ground[1]), 0))

    def test_better_than_the_told_one(self):
        self.assertEqual(joining_of(GREEDY)[0], [("a",), ("b", "c"), ("d",)])
        self.assertEqual(best_of(GREEDY), ([("a", "b"), ("c", "d")], 15, 9))

    def test_two_rows(self):
        ground = (("a", "b"), ((5, "a", "b", 0), (4, "a", "b", 1)), (("a", "b", 0),))
        self.assertEqual(best_of(ground), ([("a",), ("b",)], 0, 9))

    def test_reasons_within_a_set_that_do_not_hold_it_count(self):
        ground = (("a", "b", "c"), put_in_order([(5, "a", "b", 0), (3, "b", "c", 0), (3, "b", "c", 1)]), (("a", "c", 0),))
        self.assertEqual(best_of(ground), ([("a",), ("b", "c")], 6, 5))

    def test_alike_weights(self):
        ground = (("a", "b", "c"), ((5, "a", "b", 0), (5, "b", "c", 0)), (("a", "c", 0),))
        self.assertEqual(self.hold(ground), 5)

    def test_a_bar_between_two_parts(self):
        ground = (("a", "b", "c"), ((5, "a", "b", 0),), (("a", "c", 0),))
        self.assertEqual(best_of(ground), ([("a", "b"), ("c",)], 5, 0))

    def test_several_parts_with_bars(self):
        names, reasons, bars = GREEDY
        raised = {"a": "e", "b": "f", "c": "g", "d": "h"}
        ground = (names + ("e", "f", "g", "h", "i", "j"), put_in_order(
            list(reasons) + [(w, raised[a], raised[b], k) for w, a, b, k in reasons] + [(2, "i", "j", 0)]),
                  tuple(sorted(bars + tuple((raised[a], raised[b], k) for a, b, k in bars) + (("a", "i", 0),))))
        self.assertEqual(best_of(ground), ([("a", "b"), ("c", "d"), ("e", "f"), ("g", "h"), ("i", "j")], 32, 18))

    def test_against_all_joinings(self):
        with_bars = 0
        for ground in some_grounds(64, 350):
            self.assertEqual(self.hold(ground), most_weight(ground))
            with_bars += best_of(ground)[2] > 0
        self.assertGreater(with_bars, 100)

    def test_alike_weights_against_all_joinings(self):
        for ground in some_grounds(65, 150, most_weight=1, most_reasons=12):
            self.assertEqual(self.hold(ground), most_weight(ground))

    def test_large_parts(self):
        chance = random.Random(66)
        for _ in range(6):
            ground = large_part(chance, rows=6, reasons=12)
            self.assertEqual(self.hold(ground), slow_best(ground))
        for _ in range(3):
            ground = large_part(chance, most_weight=1000, rows=7, reasons=11)
            self.assertEqual(self.hold(ground), most_weight(ground))

    def test_what_is_told_is_the_askers_own(self):
        kept = copy.deepcopy(best_of(GREEDY))
        best_of(GREEDY)[0].clear()
        self.assertEqual(best_of(GREEDY), kept)


class RoomTest(unittest.TestCase):
    def refused(self, ground):
        for ask in (best_of, cases_of):
            with self.assertRaises(NoRoom):
                ask(ground)

    def test_eight_rows_and_twelve_reasons_do(self):
        chance = random.Random(67)
        for _ in range(40):
            ground = large_part(chance)
            self.assertEqual((len(ground[0]), len(ground[1])), (8, 12))
            self.assertTrue(is_good(ground, best_of(ground)[0]))
            self.assertEqual(len(cases_of(ground)), 1)

    def test_nine_rows_do_not(self):
        chance = random.Random(68)
        for many in (8, 12):
            self.refused(large_part(chance, rows=9, reasons=many))

    def test_thirteen_reasons_do_not(self):
        chance = random.Random(69)
        for rows in (4, 8):
            self.refused(large_part(chance, rows=rows, reasons=13))
        reasons = tuple((1, "a", "b", number) for number in range(13))
        self.refused((("a", "b"), reasons, (("a", "b", 0),)))
        self.assertEqual(best_of((("a", "b"), reasons[:12], (("a", "b", 0),))), ([("a",), ("b",)], 0, 12))

    def test_a_larger_part_without_a_bar_is_no_hindrance(self):
        chance = random.Random(70)
        names, reasons, bars = large_part(chance, rows=12, reasons=20)
        ground = (names + ("x", "y"), put_in_order(reasons + ((3, "x", "y", 0),)), (("a", "x", 0), ("x", "y", 0)))
        whole = sum(reason[0] for reason in reasons)
        self.assertEqual(best_of(ground), ([names, ("x",), ("y",)], whole, 3))
        self.assertEqual(len(cases_of(ground)), 1)
        # With one bar within the large part it is one.
        self.refused(ground[:2] + ((("a", "b", 0),) + ground[2],))

    def test_the_last_part_is_the_large_one(self):
        names = tuple("abcdefghijkl")
        reasons = [(5, "a", "b", 0)] + [(1, names[at], names[at + 1], 0) for at in range(2, 11)]
        self.refused((names, put_in_order(reasons), (("a", "b", 0), ("c", "d", 0))))
        self.assertEqual(best_of((names, put_in_order(reasons), (("a", "b", 0), ("b", "d", 0))))[1:], (9, 5))


if __name__ == "__main__":
    unittest.main()

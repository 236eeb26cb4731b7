import copy
import unittest

from anything import ODD_THINGS
from goodness import slow_joining
from graphs import chain, put_in_order, ring, some_grounds, walks
from onefolk.errors import NoReason
from onefolk.holding import holding_of
from onefolk.joining import fate_of, joining_of
from onefolk.parts import parts_of

# a, b and c would be one but for the bar of a and c, d comes to c's set, and then a-d is barred, too.
BARRED = (("a", "b", "c", "d"), ((9, "a", "b", 0), (8, "b", "c", 0), (7, "c", "d", 0), (6, "a", "d", 1), (5, "a", "b", 1)),
          (("a", "c", 2),))


class JoiningTest(unittest.TestCase):
    def test_no_names(self):
        self.assertEqual(joining_of(((), (), ())), ([], [], []))

    def test_names_alone(self):
        self.assertEqual(joining_of((("a", "b"), (), (("a", "b", 0),))), ([("a",), ("b",)], [], []))

    def test_without_bars(self):
        for ground in some_grounds(51, 200) + [ring(30), chain(30)]:
            ground = (ground[0], ground[1], ())
            self.assertEqual(joining_of(ground), (parts_of(ground), holding_of(ground), []))

    def test_a_bar(self):
        sets, kept, barred = joining_of(BARRED)
        self.assertEqual(sets, [("a", "b"), ("c", "d")])
        self.assertEqual(kept, [(9, "a", "b", 0), (7, "c", "d", 0)])
        self.assertEqual(barred, [((8, "b", "c", 0), ("a", "c", 2)), ((6, "a", "d", 1), ("a", "c", 2))])

    def test_a_bar_of_the_reasons_own_rows(self):
        ground = (("a", "b"), ((5, "a", "b", 0), (4, "a", "b", 1)), (("a", "b", 2),))
        self.assertEqual(joining_of(ground), ([("a",), ("b",)], [],
                                              [((5, "a", "b", 0), ("a", "b", 2)), ((4, "a", "b", 1), ("a", "b", 2))]))

    def test_of_several_bars_the_first(self):
        names = ("a", "b", "c", "d")
        reasons = ((9, "a", "b", 0), (9, "c", "d", 0), (5, "b", "d", 0))
        for bars in ((("a", "c", 1), ("a", "d", 0)), (("a", "d", 0), ("b", "c", 0)),
                     (("b", "c", 0), ("b", "c", 7), ("b", "d", 0))):
            self.assertEqual(joining_of((names, reasons, bars)),
                             ([("a", "b"), ("c", "d")], list(reasons[:2]), [(reasons[2], bars[0])]))
        told = joining_of((names, reasons, (("a", "b", 0), ("a", "d", 3), ("b", "d", 0), ("c", "d", 0))))
        self.assertEqual(told, ([("a",), ("b",), ("c",), ("d",)], [],
                                [(reasons[0], ("a", "b", 0)), (reasons[1], ("c", "d", 0)), (reasons[2], ("b", "d", 0))]))

    def test_a_bar_between_sets_that_come_to_be_later(self):
        names = ("a", "b", "c", "d", "e")
        reasons = ((9, "b", "c", 0), (8, "a", "b", 0), (7, "c", "d", 0), (6, "d", "e", 0))
        told = joining_of((names, reasons, (("a", "e", 0),)))
        self.assertEqual(told, ([("a", "b", "c", "d"), ("e",)], list(reasons[:3]), [(reasons[3], ("a", "e", 0))]))

    def test_a_bar_of_other_parts_bars_nothing(self):
        ground = (("a", "b", "c"), ((5, "a", "b", 0),), (("a", "c", 0), ("b", "c", 0)))
        self.assertEqual(joining_of(ground), ([("a", "b"), ("c",)], [(5, "a", "b", 0)], []))

    def test_sets_stand_by_their_first_names(self):
        ground = (("a", "b", "c", "d"), ((5, "b", "d", 0), (4, "a", "c", 0)), ())
        self.assertEqual(joining_of(ground)[0], [("a", "c"), ("b", "d")])

    def test_against_a_slow_going_through(self):
        barred = 0
        for ground in some_grounds(52, 500) + some_grounds(53, 300, most_names=9, most_reasons=20, most_weight=12):
            told = joining_of(ground)
            self.assertEqual(told, slow_joining(*ground))
            barred += len(told[2])
        self.assertGreater(barred, 300)

    def test_no_bar_is_within_a_set_and_of_a_barred_reason_it_is_between_still(self):
        for names, reasons, bars in some_grounds(54, 300):
            sets, kept, barred = joining_of((names, reasons, bars))
            homes = {name: own for own in sets for name in own}
            for bar in bars:
                self.assertNotEqual(homes[bar[0]], homes[bar[1]])
            for reason, bar in barred:
                self.assertEqual({homes[reason[1]], homes[reason[2]]}, {homes[bar[0]], homes[bar[1]]})

    def test_kinds(self):
        told = joining_of(BARRED)
        self.assertIs(type(told), tuple)
        for part in told:
            self.assertIs(type(part), list)
            self.assertTrue(all(type(thing) is tuple for thing in part))

    def test_what_is_told_is_the_askers_own(self):
        kept = copy.deepcopy(joining_of(BARRED))
        for part in joining_of(BARRED):
            part.clear()
        self.assertEqual(joining_of(BARRED), kept)


class FateTest(unittest.TestCase):
    def test_each_fate(self):
        bar = ("a", "c", 2)
        self.assertEqual(fate_of(BARRED, (9, "a", "b", 0)), ("kept",))
        self.assertEqual(fate_of(BARRED, (7, "c", "d", 0)), ("kept",))
        self.assertEqual(fate_of(BARRED, (5, "a", "b", 1)), ("beside", [(9, "a", "b", 0)]))
        self.assertEqual(fate_of(BARRED, (8, "b", "c", 0)), ("barred", bar, [(9, "a", "b", 0)], []))
        self.assertEqual(fate_of(BARRED, (6, "a", "d", 1)), ("barred", bar, [], [(7, "c", "d", 0)]))

    def test_the_bars_own_rows(self):
        ground = (("a", "b"), ((5, "a", "b", 0),), (("a", "b", 2),))
        self.assertEqual(fate_of(ground, (5, "a", "b", 0)), ("barred", ("a", "b", 2), [], []))

    def test_the_bars_rows_the_other_way_about(self):
        # The set of the reason's A has the bar's second row.
        ground = (("a", "b", "c", "d"), ((9, "b", "d", 0), (8, "a", "c", 0), (7, "b", "c", 0)), (("a", "d", 0),))
        self.assertEqual(fate_of(ground, (7, "b", "c", 0)), ("barred", ("a", "d", 0), [(9, "b", "d", 0)], [(8, "a", "c", 0)]))

    def test_longer_ways(self):
        names = ("a", "b", "c", "d", "e", "f")
        reasons = put_in_order([(9, "a", "b", 0), (8, "b", "c", 0), (7, "d", "e", 0), (6, "e", "f", 0), (5, "c", "d", 0),
                                (4, "a", "c", 0)])
        ground = (names, reasons, (("a", "f", 1),))
        self.assertEqual(fate_of(ground, (5, "c", "d", 0)),
                         ("barred", ("a", "f", 1), [(8, "b", "c", 0), (9, "a", "b", 0)], [(7, "d", "e", 0), (6, "e", "f", 0)]))
        self.assertEqual(fate_of(ground, (4, "a", "c", 0)), ("beside", [(9, "a", "b", 0), (8, "b", "c", 0)]))

    def test_fates_of_some_grounds(self):
        words = {"kept": 0, "beside": 0, "barred": 0}
        for ground in some_grounds(55, 400) + some_grounds(56, 150, most_names=9, most_reasons=20, most_weight=12):
            sets, kept, barred = slow_joining(*ground)
            for at, reason in enumerate(ground[1]):
                told = fate_of(ground, reason)
                words[told[0]] += 1
                self.assertEqual(told[0] == "kept", reason in kept)
                self.assertEqual(told[0] == "barred", reason in dict(barred))
                ahead = [other for other in ground[1][:at] if other in kept]
                for way in told[1:] if told[0] == "beside" else told[2:]:
                    self.assertIs(type(way), list)
                    self.assertEqual(len(way), len(set(way)))
                    self.assertTrue(set(way) <= set(ahead))
                if told[0] == "kept":
                    self.assertEqual(told, ("kept",))
                elif told[0] == "beside":
                    self.assertEqual(len(told), 2)
                    self.assertEqual(walks(told[1], reason[1]), reason[2])
                else:
                    self.assertEqual(len(told), 4)
                    self.assertEqual(told[1], dict(barred)[reason])
                    ends = (walks(told[2], reason[1]), walks(told[3], reason[2]))
                    self.assertIn(ends, (told[1][:2], told[1][1::-1]))
        self.assertGreater(min(words.values()), 200, words)

    def refused(self, ground, thing):
        with self.assertRaises(NoReason):
            fate_of(ground, thing)

    def test_reasons_that_are_not_of_the_ground(self):
        for reason in ((9, "a", "b", 1), (8, "a", "b", 0), (9, "a", "c", 0), (9, "b", "a", 0), (9, "a", "x", 0)):
            self.refused(BARRED, reason)
        self.refused(((), (), ()), (9, "a", "b", 0))

    def test_truths_for_numbers(self):
        ground = (("a", "b"), ((1, "a", "b", 0), (1, "a", "b", 1)), ())
        self.assertEqual(fate_of(ground, (1, "a", "b", 1)), ("beside", [(1, "a", "b", 0)]))
        for thing in ((True, "a", "b", 1), (1, "a", "b", True), (True, "a", "b", 0), (1, "a", "b", False)):
            self.refused(ground, thing)

    def test_things_of_any_kind(self):
        reason = BARRED[1][0]
        for thing in ODD_THINGS + [list(reason), reason[:3], reason + (0,), (), (reason,), BARRED[2][0], "a-b 9 0"]:
            self.refused(BARRED, thing)
            self.refused(BARRED, (9, thing, "b", 0))

    def test_what_is_told_is_the_askers_own(self):
        for reason in BARRED[1]:
            kept = copy.deepcopy(fate_of(BARRED, reason))
            for part in fate_of(BARRED, reason):
                if isinstance(part, list):
                    part.append("x")
            self.assertEqual(fate_of(BARRED, reason), kept)


if __name__ == "__main__":
    unittest.main()

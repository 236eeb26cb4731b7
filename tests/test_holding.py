import itertools
import unittest

from anything import ODD_THINGS
from graphs import chain, put_in_order, reach, ring, some_grounds, true_parts, walks, ways
from onefolk.errors import NoName, NoReason
from onefolk.holding import hangs_on, holding_of, why_one
from onefolk.parts import parts_of

SQUARE = (("a", "b", "c", "d"), ((9, "a", "b", 0), (7, "b", "c", 0), (5, "a", "c", 0), (3, "c", "d", 1), (1, "a", "d", 0)),
          (("a", "d", 2),))


class HoldingTest(unittest.TestCase):
    def test_no_reasons(self):
        self.assertEqual(holding_of(((), (), ())), [])
        self.assertEqual(holding_of((("a", "b"), (), (("a", "b", 0),))), [])

    def test_a_square(self):
        self.assertEqual(holding_of(SQUARE), [(9, "a", "b", 0), (7, "b", "c", 0), (3, "c", "d", 1)])

    def test_alike_weights(self):
        reasons = ((5, "a", "b", 0), (5, "a", "c", 0), (5, "b", "c", 0))
        self.assertEqual(holding_of((("a", "b", "c"), reasons, ())), list(reasons[:2]))

    def test_two_reasons_of_the_same_names(self):
        self.assertEqual(holding_of((("a", "b"), ((5, "a", "b", 0), (5, "a", "b", 1)), ())), [(5, "a", "b", 0)])
        self.assertEqual(holding_of((("a", "b"), ((6, "a", "b", 1), (5, "a", "b", 0)), ())), [(6, "a", "b", 1)])

    def test_a_chain_and_a_ring(self):
        names, reasons, bars = chain(30)
        self.assertEqual(holding_of((names, reasons, bars)), list(reasons))
        names, reasons, bars = ring(30)
        self.assertEqual(holding_of((names, reasons, bars)), list(reasons[:-1]))

    def test_bars_aside(self):
        self.assertEqual(holding_of(SQUARE[:2] + ((),)), holding_of(SQUARE))

    def test_as_many_as_names_less_parts(self):
        for ground in some_grounds(3, 300):
            self.assertEqual(len(holding_of(ground)), len(ground[0]) - len(parts_of(ground)))

    def test_in_order_and_of_the_ground(self):
        for ground in some_grounds(4, 300):
            told = holding_of(ground)
            self.assertEqual(told, [reason for reason in ground[1] if reason in told])
            for at, reason in enumerate(ground[1]):
                self.assertEqual(reason in told, reason[2] not in reach(reason[1], ground[1][:at]))

    def test_the_fewest_and_of_the_most_weight(self):
        for names, reasons, bars in some_grounds(5, 150):
            told = holding_of((names, reasons, bars))
            parts = true_parts(names, reasons)
            self.assertEqual(true_parts(names, told), parts)
            for many in range(len(told) + 1):
                for some in itertools.combinations(reasons, many):
                    if true_parts(names, some) == parts:
                        self.assertEqual(many, len(told))
                        self.assertLessEqual(sum(row[0] for row in some), sum(row[0] for row in told))

    def test_each_one_struck_parts_a_set_in_two(self):
        for names, reasons, bars in some_grounds(6, 150):
            told = holding_of((names, reasons, bars))
            for reason in told:
                rest = [other for other in told if other != reason]
                self.assertEqual(len(true_parts(names, rest)), len(true_parts(names, told)) + 1)

    def test_the_told_list_is_the_askers_own(self):
        told = holding_of(SQUARE)
        self.assertIs(type(told), list)
        told.clear()
        self.assertEqual(len(holding_of(SQUARE)), 3)


class WhyOneTest(unittest.TestCase):
    def test_to_and_fro(self):
        way = [(9, "a", "b", 0), (7, "b", "c", 0), (3, "c", "d", 1)]
        self.assertEqual(why_one(SQUARE, "a", "d"), way)
        self.assertEqual(why_one(SQUARE, "d", "a"), way[::-1])
        self.assertEqual(why_one(SQUARE, "a", "c"), way[:2])
        self.assertEqual(why_one(SQUARE, "b", "d"), way[1:])
        self.assertEqual(why_one(SQUARE, "c", "b"), way[1:2])

    def test_one_name_twice(self):
        for name in SQUARE[0]:
            self.assertEqual(why_one(SQUARE, name, name), [])
        self.assertEqual(why_one((("a",), (), ()), "a", "a"), [])

    def test_names_of_two_parts(self):
        ground = (("a", "ab", "b", "c"), ((5, "a", "b", 0), (5, "ab", "c", 0)), ())
        self.assertEqual(why_one(ground, "a", "b"), [(5, "a", "b", 0)])
        for one, other in (("a", "ab"), ("b", "c"), ("c", "a"), ("ab", "b")):
            self.assertIsNone(why_one(ground, one, other))
        self.assertIsNone(why_one((("a", "b"), (), (("a", "b", 0),)), "a", "b"))

    def test_a_long_chain_and_a_ring(self):
        names, reasons, bars = chain(30)
        self.assertEqual(why_one((names, reasons, bars), names[0], names[-1]), list(reasons[::-1]))
        self.assertEqual(why_one((names, reasons, bars), names[-1], names[0]), list(reasons))
        names, reasons, bars = ring(30)
        self.assertEqual(why_one((names, reasons, bars), names[0], names[-1]), [(30, names[0], names[-1], 0)])
        self.assertEqual(len(why_one((names, reasons, bars), names[0], names[1])), 29)

    def test_branches(self):
        ground = (("a", "b", "c", "d", "e"), put_in_order(
            [(1, "a", "c", 0), (2, "b", "c", 0), (3, "c", "d", 0), (4, "d", "e", 0)]), ())
        self.assertEqual(why_one(ground, "a", "b"), [(1, "a", "c", 0), (2, "b", "c", 0)])
        self.assertEqual(why_one(ground, "e", "b"), [(4, "d", "e", 0), (3, "c", "d", 0), (2, "b", "c", 0)])

    def test_a_way_that_no_other_way_betters(self):
        for ground in some_grounds(7, 150):
            names, reasons, bars = ground
            holding = holding_of(ground)
            for one, other in itertools.product(names, names):
                told = why_one(ground, one, other)
                if other not in reach(one, reasons):
                    self.assertIsNone(told)
                    continue
                self.assertIs(type(told), list)
                self.assertEqual(len(told), len(set(told)))
                self.assertTrue(set(told) <= set(holding))
                self.assertEqual(walks(told, one), other)
                self.assertEqual(told, why_one(ground, other, one)[::-1])
                if one != other:
                    weakest = max(min(reason[0] for reason in way) for way in ways(reasons, one, other))
                    self.assertEqual(min(reason[0] for reason in told), weakest)

    def test_names_that_are_not_among_the_names(self):
        for one, other, name in (("x", "a", "x"), ("a", "x", "x"), ("x", "y", "x"), ("y", "x", "y"), ("x", "x", "x"),
                                 ("a", "", ""), ("A", "a", "A"), ("ab", "a", "ab")):
            with self.assertRaises(NoName) as caught:
                why_one(SQUARE, one, other)
            self.assertEqual(caught.exception.name, name)

    def test_things_that_are_no_names(self):
        for thing in ODD_THINGS + [["a"], {"a": 1}, ("a",), b"a", SQUARE[1][0]]:
            for one, other in ((thing, "a"), ("a", thing), (thing, "x"), (thing, [thing]), (thing, thing)):
                with self.assertRaises(NoName) as caught:
                    why_one(SQUARE, one, other)
                self.assertIs(caught.exception.name, thing)

    def test_the_first_of_two(self):
        one, other = ["x"], {"y": 1}
        for first, second in ((one, other), (other, one)):
            with self.assertRaises(NoName) as caught:
                why_one(SQUARE, first, second)
            self.assertIs(caught.exception.name, first)

    def test_the_told_list_is_the_askers_own(self):
        told = why_one(SQUARE, "a", "d")
        told.clear()
        self.assertEqual(len(why_one(SQUARE, "a", "d")), 3)
        told = why_one(SQUARE, "a", "a")
        told.append(1)
        self.assertEqual(why_one(SQUARE, "a", "a"), [])


class HangsOnTest(unittest.TestCase):
    def test_a_ring(self):
        for reason in ring(30)[1]:
            self.assertEqual(hangs_on(ring(30), reason), ("stays",))

    def test_a_chain(self):
        ground = chain(30)
        for reason in ground[1]:
            at = ground[0].index(reason[2])
            self.assertEqual(hangs_on(ground, reason), ("parts", ground[0][:at], ground[0][at:]))

    def test_the_part_of_a_comes_first(self):
        ground = (("a", "b", "c", "d"), ((9, "b", "c", 0), (8, "a", "c", 0), (7, "b", "d", 0)), ())
        self.assertEqual(hangs_on(ground, (9, "b", "c", 0)), ("parts", ("b", "d"), ("a", "c")))
        self.assertEqual(hangs_on(ground, (8, "a", "c", 0)), ("parts", ("a",), ("b", "c", "d")))
        self.assertEqual(hangs_on(ground, (7, "b", "d", 0)), ("parts", ("a", "b", "c"), ("d",)))

    def test_two_reasons_of_the_same_names(self):
        ground = (("a", "b"), ((5, "a", "b", 0), (5, "a", "b", 1)), ())
        for reason in ground[1]:
            self.assertEqual(hangs_on(ground, reason), ("stays",))

    def test_bars_aside(self):
        self.assertEqual(hangs_on((("a", "b"), ((5, "a", "b", 0),), (("a", "b", 1),)), (5, "a", "b", 0)),
                         ("parts", ("a",), ("b",)))

    def test_some_grounds(self):
        for ground in some_grounds(8, 200):
            names, reasons, bars = ground
            for reason in reasons:
                rest = [other for other in reasons if other != reason]
                one, other = reach(reason[1], rest), reach(reason[2], rest)
                expected = ("stays",) if one == other else ("parts", tuple(sorted(one)), tuple(sorted(other)))
                self.assertEqual(hangs_on(ground, reason), expected)

    def test_where_the_holding_reasons_are_all_each_one_parts(self):
        for ground in some_grounds(9, 100):
            held = (ground[0], tuple(holding_of(ground)), ground[2])
            for reason in held[1]:
                self.assertEqual(hangs_on(held, reason)[0], "parts")

    def refused(self, ground, thing):
        with self.assertRaises(NoReason):
            hangs_on(ground, thing)

    def test_reasons_that_are_not_of_the_ground(self):
        for reason in ((8, "a", "b", 0), (9, "a", "c", 0), (9, "b", "c", 0), (9, "a", "b", 1), (9, "a", "x", 0),
                       (9, "b", "a", 0), (9, "a", "b", -1)):
            self.refused(SQUARE, reason)
        self.refused(((), (), ()), (9, "a", "b", 0))

    def test_truths_for_numbers(self):
        ground = (("a", "b"), ((1, "a", "b", 1), (1, "a", "b", 2)), ())
        self.assertEqual(hangs_on(ground, (1, "a", "b", 1)), ("stays",))
        for thing in ((True, "a", "b", 1), (1, "a", "b", True), (True, "a", "b", True)):
            self.refused(ground, thing)
        ground = (("a", "b"), ((1, "a", "b", 0),), ())
        self.refused(ground, (1, "a", "b", False))

    def test_other_tuples_and_lists(self):
        reason = SQUARE[1][0]
        for thing in (list(reason), reason[:3], reason[1:], reason + (0,), (), (reason,), SQUARE[2][0], [reason],
                      (str(reason[0]),) + reason[1:], "a-b 9 0"):
            self.refused(SQUARE, thing)

    def test_things_of_any_kind(self):
        for thing in ODD_THINGS:
            self.refused(SQUARE, thing)
            self.refused(SQUARE, (9, thing, "b", 0))
            self.refused(SQUARE, (9, "a", thing, 0))
            if type(thing) is not int:
                self.refused(SQUARE, (thing, "a", "b", 0))
                self.refused(SQUARE, (9, "a", "b", thing))
        self.assertEqual(hangs_on(SQUARE, SQUARE[1][0]), ("stays",))


if __name__ == "__main__":
    unittest.main()

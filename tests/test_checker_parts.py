"""Each part of claims and papers, by hand."""

import itertools
import unittest

from goodness import kept_weight, slow_good
from graphs import chain, put_in_order
from house import HOUSE, ONE, OTHER, WORLDS, Held, asks_paper, moved_paper
from onefolk.checker import holds
from onefolk.plans import least_plan, too_few


class WayTest(Held):
    RING = (("a", "b", "c", "d"), put_in_order([(4, "a", "b", 0), (4, "b", "c", 0), (4, "a", "c", 0), (4, "a", "b", 1),
                                                (2, "c", "d", 0)]), ())
    AB, BC, AC, ABK, CD = (4, "a", "b", 0), (4, "b", "c", 0), (4, "a", "c", 0), (4, "a", "b", 1), (2, "c", "d", 0)

    def test_every_way_is_right(self):
        for way in ((self.AC, self.CD), (self.AB, self.BC, self.CD), (self.ABK, self.BC, self.CD),
                    (self.AB, self.ABK, self.AC, self.CD)):
            self.taken(("one", self.RING, "a", "d"), way)
            self.taken(("one", self.RING, "d", "a"), way[::-1])

    def test_ways_that_are_none(self):
        for way in ((), (self.AC,), (self.CD, self.AC), (self.AC, self.AC, self.AC, self.CD), (self.AB, self.CD),
                    (self.AC, self.CD, self.CD, self.CD), (self.AB, self.AB, self.AC, self.CD), (self.AC, (2, "c", "d", 1)),
                    (self.AC, (2, "c", "d", False)), [self.AC, self.CD], (list(self.AC), self.CD), None, "", (None,)):
            self.not_taken(("one", self.RING, "a", "d"), way)

    def test_of_one_name_the_empty_way_alone(self):
        for name in "abcd":
            self.taken(("one", self.RING, name, name), ())
            for paper in ((self.AB, self.ABK), (self.AB, self.BC, self.AC), [], None, (self.AB,), ((),)):
                self.not_taken(("one", self.RING, name, name), paper)

    def test_truths_for_numbers(self):
        ground = (("a", "b"), ((1, "a", "b", 0), (1, "a", "b", 1)), ())
        self.taken(("one", ground, "a", "b"), ((1, "a", "b", 0),))
        for reason in ((True, "a", "b", 0), (1, "a", "b", False), (1, "a", "b", True)):
            self.not_taken(("one", ground, "a", "b"), (reason,))
            self.not_taken(("holding", ground, (reason,)), None)

    def test_apart(self):
        ground = (("a", "b", "c", "d"), ((5, "a", "b", 0),), ())
        for paper, is_so in ((("a", "b"), True), (("a", "b", "d"), True), (("a",), False), (("a", "b", "c"), False),
                             (("b", "a"), False), (("a", "a", "b"), False), (("a", "b", "z"), False), (("b",), False),
                             ((), False), (["a", "b"], False), (("a", "b", 1), False), ("ab", False), (None, False)):
            self.assertIs(self.hold(("apart", ground, "a", "c"), paper), is_so, paper)
        self.not_taken(("apart", ground, "a", "a"), ("a", "b"))
        self.not_taken(("apart", ground, "a", "a"), ("c",))


class GroundTest(Held):
    """Grounds with one part that is none are not taken, even where the paper touches other parts alone."""

    NAMES, REASONS, BARS = ("a", "b", "c", "x", "y"), ((5, "a", "b", 0), (4, "x", "y", 7)), (("x", "y", 0), ("x", "y", 3))

    def claims(self, ground):
        yield ("one", ground, "a", "b"), (self.REASONS[0],)
        yield ("one", ground, "c", "c"), ()
        yield ("apart", ground, "a", "c"), ("a", "b")
        yield ("holding", ground, self.REASONS), None
        yield ("holding", ground, self.REASONS[:1]), None
        for sets in ((("a", "b"), ("c",), ("x",), ("y",)), (("a", "b"), ("c",), ("x", "y"))):
            for kept in (self.REASONS, self.REASONS[:1]):
                yield ("joining", ground, sets), (kept, ())
                yield ("joining", ground, sets), (kept, ((self.REASONS[1], self.BARS[0]),))
            yield ("best", ground, sets), ()
            yield ("best", ground, sets), (("prices", (((self.REASONS[1],), 4),)),)

    def test_as_it_should_be(self):
        ground = (self.NAMES, self.REASONS, self.BARS)
        self.assertEqual([self.hold(*pair) for pair in self.claims(ground)].count(True), 6)

    def test_one_reason_that_is_none(self):
        for wrong in ((0, "x", "y", 7), (1001, "x", "y", 7), (True, "x", "y", 7), (4, "x", "y", -1), (4, "x", "y", True),
                      (4, "y", "x", 7), (4, "x", "x", 7), (4, "x", "Y", 7), (4, "x", "yyyyyyyyy", 7), (4, "x", "z", 7),
                      (4, "w", "y", 7), (4, "x", "y"), (4, "x", "y", 7, 7), [4, "x", "y", 7], ("4", "x", "y", 7),
                      (4, "x", "y", None), None, (), (5, "a", "b", 0), (6, "x", "y", 7)):
            for claim, paper in self.claims((self.NAMES, self.REASONS[:1] + (wrong,), self.BARS)):
                self.not_taken(claim, paper)

    def test_one_bar_that_is_none(self):
        for wrong in (("x", "y", 0), ("a", "b", 0), ("x", "y", -1), ("x", "y", True), ("y", "x", 3), ("x", "x", 3),
                      ("x", "Y", 3), ("x", "z", 3), ("x", "yyyyyyyyy", 3), ("w", "y", 3), ("x", "y"), ("x", "y", 3, 3),
                      ["x", "y", 3], ("x", "y", "3"), None, ()):
            for claim, paper in self.claims((self.NAMES, self.REASONS, self.BARS[:1] + (wrong,))):
                self.not_taken(claim, paper)

    def test_names_that_are_none(self):
        for names in (("a", "b", "c", "y", "x"), ("a", "b", "c", "x", "x", "y"), ("a", "b", "c", "x", "y", "Z"),
                      ("a", "b", "c", "x", "y", 1), ("a", "b", "c", "x", "y", "zzzzzzzzz"), ("a", "b", "c", "x", "y", ""),
                      list(self.NAMES), ("a", "b", "c", "x"), "abcxy"):
            for claim, paper in self.claims((names, self.REASONS, self.BARS)):
                self.not_taken(claim, paper)

    def test_lists_and_lengths(self):
        for ground in ([self.NAMES, self.REASONS, self.BARS], (self.NAMES, list(self.REASONS), self.BARS),
                       (self.NAMES, self.REASONS, list(self.BARS)), (self.NAMES, self.REASONS),
                       (self.NAMES, self.REASONS, self.BARS, ()), (self.NAMES, self.REASONS[::-1], self.BARS),
                       (self.NAMES, self.REASONS, self.BARS[::-1]), None, ()):
            for claim, paper in self.claims(ground):
                self.not_taken(claim, paper)


class CaseTest(Held):
    AB, BC, CD, ACK = (5, "a", "b", 0), (4, "b", "c", 0), (3, "c", "d", 0), (2, "a", "c", 1)
    # One part; c is barred from a: b-c and a-c are lost. x and y are a part without a bar.
    GROUND = (("a", "b", "c", "d", "x", "y"), put_in_order([AB, BC, CD, ACK, (1, "x", "y", 0)]),
              (("a", "c", 0), ("a", "x", 0)))
    CLAIM = ("best", GROUND, (("a", "b"), ("c", "d"), ("x", "y")))
    WHOLE = ("prices", (((AB, BC), 4), ((ACK,), 2)))

    def case(self, case, is_so):
        self.assertIs(self.hold(self.CLAIM, (case,)), is_so, case)

    def test_prices(self):
        self.case(self.WHOLE, True)
        for rows, is_so in (
            ((((self.BC, self.AB), 4), ((self.ACK,), 2)), True),
            ((((self.AB, self.BC), 1), ((self.ACK,), 2), ((self.AB, self.BC), 3)), True),
            ((((self.AB, self.BC), 3), ((self.ACK,), 2)), False),
            ((((self.AB, self.BC), 5), ((self.ACK,), 2)), False),
            ((((self.AB, self.BC), 4), ((self.ACK,), 3)), False),
            ((((self.AB, self.BC), 4), ((self.ACK,), 2), ((self.AB, self.BC), 1)), False),
            ((((self.AB, self.BC), 4), ((self.ACK,), 2), ((self.AB, self.BC), 0)), False),
            ((((self.AB, self.BC), 4), ((self.ACK,), 2), ((self.AB, self.BC), -1)), False),
            ((((self.AB, self.BC), 4), ((self.ACK,), 1), ((self.ACK,), True)), False),
            ((((self.AB, self.BC), 4), ((self.ACK,), 1), ((self.ACK,), 1)), True),
            ((((self.AB, self.CD), 4), ((self.ACK,), 2)), False),
            ((((self.AB, self.BC, self.CD), 3), ((self.ACK,), 2)), False),
            ((((self.AB,), 4), ((self.ACK,), 2)), False),
            ((((), 4), ((self.ACK,), 2)), False),
            ((((self.AB, self.BC, self.ACK, self.ACK), 4), ((self.ACK,), 2)), False),
            ((((self.AB, self.BC), 4, 0), ((self.ACK,), 2)), False),
            ((((self.AB, self.BC), 4), ((self.ACK,),)), False),
            ((([self.AB, self.BC], 4), ((self.ACK,), 2)), False),
            (([(self.AB, self.BC), 4], ((self.ACK,), 2)), False),
            ([((self.AB, self.BC), 4), ((self.ACK,), 2)], False),
            ((), False),
        ):
            self.case(("prices", rows), is_so)

    def test_held_and_cut(self):
        shut = ("shut", (self.AB, self.BC))
        for case, is_so in (
            (("cases", self.AB, self.WHOLE, self.WHOLE), False),
            (("cases", self.AB, self.WHOLE, ("prices", (((self.ACK,), 2),))), True),
            (("cases", self.AB, self.WHOLE, ("prices", (((self.ACK,), 1),))), True),
            (("cases", self.AB, self.WHOLE, ("prices", ())), False),
            (("cases", self.ACK, ("shut", (self.ACK,)), ("prices", (((self.AB, self.BC), 4),))), True),
            (("cases", self.ACK, ("shut", (self.ACK,)), ("prices", (((self.AB, self.BC), 3),))), False),
            (("cases", self.ACK, ("prices", (((self.AB, self.BC), 4),)), ("shut", (self.ACK,))), False),
            (("cases", self.ACK, ("shut", ()), ("prices", (((self.AB, self.BC), 4),))), False),
            (("cases", self.ACK, ("shut", (self.AB, self.BC)), ("prices", (((self.AB, self.BC), 4),))), False),
            # All of a held way may have any price, since what it tells of can't be.
            (("cases", self.ACK, ("prices", (((self.ACK,), 999999),)), ("prices", (((self.AB, self.BC), 4),))), True),
            (("cases", self.ACK, ("prices", (((self.ACK,), 0),)), ("prices", (((self.AB, self.BC), 4),))), False),
            (("cases", self.AB, ("cases", self.BC, shut, ("prices", (((self.ACK,), 2),))), ("prices", (((self.ACK,), 2),))),
             True),
            (("cases", self.AB, ("cases", self.BC, shut, ("prices", ())), ("prices", (((self.ACK,), 2),))), False),
            (("cases", self.AB, ("cases", self.BC, ("shut", (self.ACK,)), self.WHOLE), self.WHOLE), False),
            (("cases", self.AB, ("cases", self.AB, self.WHOLE, self.WHOLE), ("prices", (((self.ACK,), 2),))), False),
            (("cases", self.AB, self.WHOLE, ("cases", self.AB, ("prices", (((self.ACK,), 2),)),
                                             ("prices", (((self.ACK,), 2),)))), False),
            (("cases", self.CD, self.WHOLE, self.WHOLE), True),
            (("cases", (1, "x", "y", 0), self.WHOLE, self.WHOLE), False),
            (("cases", (3, "c", "d", 1), self.WHOLE, self.WHOLE), False),
            (("cases", (3, "c", "d", False), self.WHOLE, self.WHOLE), False),
            (("cases", list(self.CD), self.WHOLE, self.WHOLE), False),
            (("cases", self.CD, self.WHOLE), False),
            (("cases", self.CD, self.WHOLE, self.WHOLE, self.WHOLE), False),
            (("cases", None, self.WHOLE, self.WHOLE), False),
            (shut, False),
            (("shut",), False),
            (("prices",), False),
            (("cases",), False),
            ((), False),
            (None, False),
        ):
            self.case(case, is_so)

    def test_cases_as_many_as_parts_with_a_bar(self):
        for paper in ((), (self.WHOLE, self.WHOLE), [self.WHOLE], self.WHOLE, (self.WHOLE, None), None):
            self.not_taken(self.CLAIM, paper)

    def test_cases_of_two_parts_in_order(self):
        claim, paper = HOUSE["best"]
        self.assertEqual(len(paper), 2)
        self.assertEqual({case[0] for case in paper}, {"prices", "cases"})
        self.taken(claim, paper)
        self.not_taken(claim, paper[::-1])

    def test_a_part_without_a_bar_that_is_no_whole_set(self):
        self.taken(self.CLAIM, (self.WHOLE,))
        self.not_taken(self.CLAIM[:2] + ((("a", "b"), ("c", "d"), ("x",), ("y",)),), (self.WHOLE,))
        names, reasons, bars = self.GROUND
        free = (names, reasons, ())
        self.taken(("best", free, (("a", "b", "c", "d"), ("x", "y"))), ())
        for sets in ((("a", "b"), ("c", "d"), ("x", "y")), (("a", "b", "c", "d"), ("x",), ("y",)),
                     (("a", "b", "c", "d", "x", "y"),)):
            self.not_taken(("best", free, sets), ())

    def test_sets_that_are_not_good(self):
        for sets in ((("a", "b", "c", "d"), ("x", "y")), (("a", "b"), ("c", "d", "x", "y")),
                     (("a", "b", "d"), ("c",), ("x", "y")), (("a", "b"), ("c", "d")),
                     (("a", "b"), ("c", "d"), ("x", "y"), ("z",)), (("a", "b"), ("b", "c", "d"), ("x", "y")),
                     (("c", "d"), ("a", "b"), ("x", "y")), (("b", "a"), ("c", "d"), ("x", "y")),
                     (("a", "b"), ("c", "d"), ("x", "y"), ()), [("a", "b"), ("c", "d"), ("x", "y")],
                     (["a", "b"], ("c", "d"), ("x", "y")), (("a", "b"), (), ("c", "d"), ("x", "y"))):
            self.not_taken(self.CLAIM[:2] + (sets,), (self.WHOLE,))

    def test_a_good_joining_that_loses_more(self):
        # A case shows 6 at most, whatever the joining loses.
        for sets in ((("a",), ("b", "c", "d"), ("x", "y")), (("a", "b"), ("c",), ("d",), ("x", "y"))):
            self.assertTrue(slow_good(self.GROUND, sets))
            self.assertGreater(sum(reason[0] for reason in self.GROUND[1]) - kept_weight(self.GROUND[1], sets), 6)
            self.not_taken(self.CLAIM[:2] + (sets,), (self.WHOLE,))

    def test_a_part_larger_than_the_house_seeks_through(self):
        # The house refuses such a part; a paper for it is taken all the same.
        names, reasons, bars = chain(30)
        ground = (names, reasons, ((names[0], names[1], 0),))
        lightest = reasons[-1]
        self.assertEqual(lightest[1:3], (names[0], names[1]))
        claim = ("best", ground, ((names[0],), names[1:]))
        self.taken(claim, (("prices", (((lightest,), 1),)),))
        self.not_taken(claim, (("prices", ()),))
        # One held reason behind the other, as deep as there are reasons.
        case = ("shut", (lightest,))
        for reason in reasons[::-1]:
            case = ("cases", reason, case, ("prices", ((((lightest,), 1),) if reason != lightest else ())))
        self.taken(claim, (case,))

    def test_a_hundred_and_sixty_reasons(self):
        reasons = tuple((1, "b", "c", number) for number in range(160))
        ground = (("a", "b", "c"), put_in_order(reasons + ((5, "a", "b", 0),)), (("a", "c", 0),))
        claim = ("best", ground, (("a",), ("b", "c")))
        ways = [((5, "a", "b", 0), reason) for reason in reasons]
        self.taken(claim, (("prices", tuple((way, 1) for way in ways[:5])),))
        # The first reason, held, bears any price; cut, it leaves 4 to be shown by others.
        leaf = ("prices", ((ways[0], 5),))
        case = leaf
        for reason in reasons[:0:-1]:
            case = ("cases", reason, case, leaf)
        self.taken(claim, (("cases", reasons[0], case, ("prices", tuple((way, 1) for way in ways[1:5]))),))
        self.not_taken(claim, (("cases", reasons[0], case, ("prices", tuple((way, 1) for way in ways[1:4]))),))


class PlanTest(Held):
    CLAIM, (PLAN, TABLE) = HOUSE["asks"]

    def test_depth(self):
        self.assertEqual(self.CLAIM[2], 2)
        for depth in (0, 1, 3, -1, True, False, None, "2", (2,)):
            self.not_taken(self.CLAIM[:2] + (depth,), (self.PLAN, self.TABLE))
        worlds = WORLDS[:2]
        self.taken(("asks", worlds, 1), (least_plan(worlds)[1], too_few(worlds, 0)))
        self.not_taken(("asks", worlds, True), (least_plan(worlds)[1], too_few(worlds, 0)))
        self.not_taken(("asks", worlds[:1], False), (("told", 0), ()))

    def test_no_ask(self):
        for world in WORLDS:
            self.taken(("asks", (world,), 0), (("told", 0), ()))
            for plan, table in ((("told", 1), ()), (("told", False), ()), (("told", -1), ()), (["told", 0], ()),
                                (("told", 0), []), (("told", 0), None), (("told", 0), (((0,), 0, ()),)),
                                (("told", 0), ((),)), (("told",), ()), (("told", 0, 0), ())):
                self.not_taken(("asks", (world,), 0), (plan, table))

    def test_plans_that_settle_otherwise(self):
        inner = ("ask", ("stands", "a"), ("told", 0), ("told", 3))
        for plan, is_so in (
            (("ask", ("stands", "a"), ("ask", ("one", "a", "b"), ("told", 1), ("told", 0)),
              ("ask", ("stands", "b"), ("told", 3), ("told", 2))), True),
            (("ask", ("stands", "a"), ("ask", ("one", "a", "b"), ("told", 0), ("told", 1)),
              ("ask", ("stands", "b"), ("told", 3), ("told", 2))), False),
            (("ask", ("stands", "a"), ("ask", ("one", "b", "a"), ("told", 1), ("told", 0)),
              ("ask", ("stands", "b"), ("told", 3), ("told", 2))), False),
            (("ask", ("stands", "a"), ("ask", ("one", "a", "b"), ("told", True), ("told", 0)),
              ("ask", ("stands", "b"), ("told", 3), ("told", 2))), False),
            (("ask", ("stands", "a"), ("ask", ["one", "a", "b"], ("told", 1), ("told", 0)),
              ("ask", ("stands", "b"), ("told", 3), ("told", 2))), False),
            # Three asks deep on one side: it settles all, but by more.
            (("ask", ("one", "a", "b"), ("told", 1), ("ask", ("stands", "b"), inner, ("told", 2))), False),
            # An ask to which all that are left answer alike.
            (("ask", ("stands", "a"), ("ask", ("stands", "a"), ("told", 1), ("told", 0)),
              ("ask", ("stands", "b"), ("told", 3), ("told", 2))), False),
            (("ask", ("stands", "c"), ("told", 0), ("told", 1)), False),
            (("ask", None, ("told", 0), ("told", 1)), False),
            (("told", 0), False),
            (None, False),
            ((), False),
        ):
            self.assertIs(self.hold(self.CLAIM, (plan, self.TABLE)), is_so, plan)

    def test_worlds_that_are_none(self):
        for worlds in ((), list(WORLDS), WORLDS + WORLDS[:1], WORLDS[:3] + ([("b",)],), WORLDS[:3] + ((["b"],),),
                       WORLDS[:3] + ((("b",), ("a",)),), WORLDS[:3] + ((("b", "a"),),),
                       WORLDS[:3] + ((("a", "b"), ("b",)),), WORLDS[:3] + ((("b",), ()),), WORLDS[:3] + ((("B",),),),
                       WORLDS[:3] + (None,), WORLDS[:3] + ((1,),), WORLDS[:3] + ((("b",), ("b",)),), None, "ab"):
            self.not_taken(("asks", worlds, 2), (self.PLAN, self.TABLE))

    def test_too_many_worlds_and_names(self):
        worlds = tuple((("a", "bcdefghi"[at]),) for at in range(8))
        self.assertEqual(len({name for world in worlds for own in world for name in own}), 9)
        self.not_taken(*asks_paper(worlds))
        self.taken(*asks_paper(worlds[:7]))
        worlds = tuple(tuple((name,) for bit, name in enumerate("abcd") if number >> bit & 1) for number in range(9))
        self.not_taken(*asks_paper(worlds))
        self.taken(*asks_paper(worlds[:8]))
        self.not_taken(*asks_paper((tuple((name,) for name in "abcdefghi"),)))
        self.taken(*asks_paper((tuple((name,) for name in "abcdefgh"),)))


class TableTest(Held):
    CLAIM, (PLAN, TABLE) = HOUSE["asks"]

    def table(self, table, is_so):
        self.assertIs(self.hold(self.CLAIM, (self.PLAN, table)), is_so, table)

    def test_rows_that_nothing_needs(self):
        self.assertEqual(self.TABLE[0][:2], ((0, 1, 2, 3), 1))
        for more in itertools.chain(*(itertools.combinations(range(4), many) for many in (2, 3, 4))):
            for at in range(1, len(self.TABLE) + 1):
                self.table(self.TABLE[:at] + ((more, 0, ()),) + self.TABLE[at:], True)
        for row in self.TABLE:
            self.table(self.TABLE + (row,), True)
        # A whole table behind the one that is needed, of three worlds that one ask doesn't settle.
        more = tuple((tuple((0, 2, 3)[number] for number in numbers), many, ()) for numbers,
                     many in (((0, 1), 0), ((0, 2), 0), ((1, 2), 0)))
        for sides in itertools.product((True, False), repeat=3):
            self.hold(self.CLAIM, (self.PLAN, self.TABLE + more + (((0, 2, 3), 1, sides),)))
        taken = [sides for sides in itertools.product((True, False), repeat=3)
                 if holds(self.CLAIM, (self.PLAN, self.TABLE + more + (((0, 2, 3), 1, sides),)))]
        self.assertEqual(taken, [(False, True, False)])

    def test_rows_that_nothing_needs_with_one_thing_wrong(self):
        for wrong in (((0, 1), 1, ()), ((0, 1), 0, (True,)), ((0, 1), 0, (True, True, False)), ((0,), 0, ()), ((), 0, ()),
                      ((1, 0), 0, ()), ((0, 0), 0, ()), ((0, 4), 0, ()), ((-1, 0), 0, ()), ((-2, -1), 0, ()),
                      ((False, 1), 0, ()), ((0, True), 0, ()), ([0, 1], 0, ()), ((0, 1), 0, []), ((0, 1), False, ()),
                      ((0, 1), None, ()), ((0, 1), "0", ()), ((0, 1), -1, ()), ((0, 1), -1, (True, True, False)),
                      ((0, 1), 0), ((0, 1), 0, (), ()), [(0, 1), 0, ()], ((0, 1), 1, (True, True, True)),
                      ((0, 1, 2, 3), 2, self.TABLE[0][2]), ((0, 1, 2, 3), 1, self.TABLE[0][2][:2]),
                      ((0, 1, 2, 3), 1, self.TABLE[0][2] + (True,)), ((0, 1, 2, 3), 1, tuple(map(int, self.TABLE[0][2]))),
                      ((0, 1, 2, 3), 1, ()), None, (), ((0, "1"), 0, ()), (("0", "1"), 0, ())):
            for at in range(1, len(self.TABLE) + 1):
                self.table(self.TABLE[:at] + (wrong,) + self.TABLE[at:], False)

    def test_rows_left_out_and_the_first_elsewhere(self):
        self.table((), False)
        self.table(list(self.TABLE), False)
        self.table(None, False)
        self.table(self.TABLE[1:], False)
        self.table(self.TABLE[1:] + self.TABLE[:1], False)
        self.table(self.TABLE[:1] + self.TABLE[:0:-1], True)

    def test_a_table_for_fewer_asks(self):
        self.table(too_few(WORLDS, 0), False)


class StepTest(Held):
    def test_steps_in_either_order_and_any_least_row(self):
        one, other = (("a", "b", "c", "d"),), (("a",), ("b",), ("c", "d"))
        for steps, is_so in (
            ((("split", ("a",), ("b", "c", "d")), ("split", ("b",), ("c", "d"))), True),
            ((("split", ("b", "c", "d"), ("a",)), ("split", ("c", "d"), ("b",))), True),
            ((("split", ("a", "b"), ("c", "d")), ("split", ("a",), ("b",))), True),
            ((("split", ("a",), ("b",)), ("split", ("a", "b"), ("c", "d"))), False),
            ((("split", ("a", "b"), ("c", "d")), ("split", ("c",), ("d",))), False),
            ((("split", ("a", "b"), ("c", "d")), ("join", ("a",), ("b",))), False),
            ((("split", ("a", "b"), ("c", "d")),), False),
            ((("split", ("a",), ("b",), ("c", "d")),), False),
            ((["split", ("a", "b"), ("c", "d")], ("split", ("a",), ("b",))), False),
            ((("split", ["a", "b"], ("c", "d")), ("split", ("a",), ("b",))), False),
            ([("split", ("a", "b"), ("c", "d")), ("split", ("a",), ("b",))], False),
            ((("split", ("b", "a"), ("c", "d")), ("split", ("a",), ("b",))), False),
            ((None, None), False),
            ((), False),
            (None, False),
        ):
            self.assertIs(self.hold(("steps", one, other, steps), None), is_so, steps)
        steps = (("split", ("a", "b"), ("c", "d")), ("split", ("a",), ("b",)))
        for paper in ((), 0, False, [], "", steps):
            self.not_taken(("steps", one, other, steps), paper)

    def test_joinings_that_are_none(self):
        steps = (("join", ("a",), ("b",)),)
        self.taken(("steps", (("a",), ("b",)), (("a", "b"),), steps), None)
        for one, other in (([("a",), ("b",)], (("a", "b"),)), ((("a",), ("b",)), [("a", "b")]),
                           ((["a"], ("b",)), (("a", "b"),)), ((("b",), ("a",)), (("a", "b"),)),
                           ((("a",), ("b",)), (("b", "a"),)), ((("a",), ("b",), ()), (("a", "b"),)),
                           ((("a",), ("b",), ("b",)), (("a", "b"),)), ((("a",), ("b",)), (("a", "b"), ())), (None, None),
                           ("ab", "ab")):
            self.not_taken(("steps", one, other, steps), None)
            self.not_taken(("moved", one, other, 1), (((0, 0),), ((0, 0), (1,))))


class MovedTest(Held):
    CLAIM = ("moved", ONE, OTHER, 1)

    def test_pairs(self):
        prices = ((2, 2, 1), (0, 0, 0))
        for pairs, is_so in (
            (((0, 0), (1, 1), (2, 2)), True),
            (((0, 0), (2, 2), (1, 1)), False),
            (((0, 0), (1, 1), (-1, 2)), False),
            (((0, 0), (1, 1), (2, -1)), False),
            (((-3, 0), (1, 1), (2, 2)), False),
            (((-3, -3), (-2, -2), (-1, -1)), False),
            (((0, 0), (1, 1), (2, 3)), False),
            (((0, 0), (1, 1), (3, 2)), False),
            (((0, 0), (0, 1), (2, 2)), False),
            (((0, 0), (1, 1)), False),
            (((0, 0), (1, 1), (1, 2)), False),
            (((0, 0), (1, 0), (2, 2)), False),
            (((0, 0), (0, 0), (1, 1), (2, 2)), False),
            (((False, 0), (1, 1), (2, 2)), False),
            (((0, 0), (True, 1), (2, 2)), False),
            (((0, 0), (1, True), (2, 2)), False),
            (((0, 0), [1, 1], (2, 2)), False),
            ([(0, 0), (1, 1), (2, 2)], False),
            (((0, 0, 0), (1, 1), (2, 2)), False),
            (((0,), (1, 1), (2, 2)), False),
            ((), False),
            (None, False),
        ):
            self.assertIs(self.hold(self.CLAIM, (pairs, prices)), is_so, pairs)

    def test_prices(self):
        pairs = ((0, 0), (1, 1), (2, 2))
        for prices, is_so in (
            (((2, 2, 1), (0, 0, 0)), True),
            (((0, 0, 0), (2, 2, 1)), True),
            (((1, 1, 0), (1, 1, 1)), True),
            (((2, 2, 0), (0, 0, 1)), True),
            (((3, 3, 2), (-1, -1, -1)), False),
            (((-1, 2, 1), (3, 0, 0)), False),
            (((2, 1, 1), (0, 1, 0)), True),
            (((1, 2, 1), (0, 1, 0)), False),
            (((2, 2, 1), (0, 0, 1)), False),
            (((2, 2, 1), (1, 0, 0)), False),
            (((5, 0, 0), (0, 0, 0)), False),
            (((2, 2, True), (0, 0, 0)), False),
            (((2, 2, 1), (0, 0, False)), False),
            (((2, 2, 1), (0, 0)), False),
            (((2, 2), (0, 0, 0, 1)), False),
            (((2, 2, 1, 0), (0, 0, 0)), False),
            (([2, 2, 1], (0, 0, 0)), False),
            (((2, 2, 1), [0, 0, 0]), False),
            ([(2, 2, 1), (0, 0, 0)], False),
            (((2, 2, 1),), False),
            (((2, 2, 1), (0, 0, 0), ()), False),
            (((2, 2, "1"), (0, 0, 0)), False),
            (((2, 2, None), (0, 0, 0)), False),
            (None, False),
            ((), False),
        ):
            self.assertIs(self.hold(self.CLAIM, (pairs, prices)), is_so, prices)

    def test_pairs_that_share_nothing(self):
        one, other = (("a",), ("b",)), (("a", "b"),)
        self.taken(("moved", one, other, 1), (((0, 0),), ((0, 0), (1,))))
        self.taken(("moved", one, other, 1), (((1, 0),), ((0, 0), (1,))))
        one, other = (("a", "b"), ("c",)), (("a", "b", "c"),)
        self.not_taken(("moved", one, other, 2), (((1, 0),), ((0, 0), (1,))))
        one, other = (("a",), ("b", "c")), (("a", "b"), ("c",))
        self.taken(("moved", one, other, 1), (((0, 0), (1, 1)), ((1, 1), (0, 0))))
        # Pairs that share as much as can be, and one beside them that shares nothing.
        one, other = (("a",), ("b", "c", "d")), (("a", "b", "c"), ("d",))
        self.taken(("moved", one, other, 2), (((0, 0), (1, 1)), ((0, 1), (1, 0))))
        self.taken(("moved", one, other, 2), (((1, 0),), ((0, 1), (1, 0))))
        self.not_taken(("moved", one, other, 2), (((0, 1), (1, 0)), ((0, 1), (1, 0))))

    def test_many(self):
        paper = (((0, 0), (1, 1), (2, 2)), ((2, 2, 1), (0, 0, 0)))
        for many, is_so in ((1, True), (0, False), (2, False), (-1, False), (True, False), (None, False), ("1", False),
                            ((1,), False)):
            self.assertIs(self.hold(self.CLAIM[:3] + (many,), paper), is_so, many)
        self.not_taken(("moved", ONE, ONE, False), moved_paper(ONE, ONE)[1])


if __name__ == "__main__":
    unittest.main()

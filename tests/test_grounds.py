import itertools
import random
import unittest

from anything import ODD_THINGS
from onefolk.booktexts import read_book
from onefolk.grounds import ground_of, in_order, is_bar, is_ground, is_reason
from onefolk.rules import tells

REASON = (5, "ann", "ben", 0)
BAR = ("ann", "ben", 0)
NAMES = ("ann", "ben", "cat", "dan")
REASONS = ((9, "ann", "cat", 1), (5, "ann", "ben", 0), (5, "ann", "ben", 3), (5, "ann", "dan", 0), (5, "ben", "cat", 0),
           (1, "ann", "ben", 2))
BARS = (("ann", "ben", 2), ("ann", "ben", 4), ("ann", "dan", 1), ("cat", "dan", 0))
GROUND = (NAMES, REASONS, BARS)

NUMBERS = ((0, True), (1, True), (100, True), (999999, True), (-1, False), (-100, False), (True, False), (False, False),
           ("0", False), (None, False))


class ReasonTest(unittest.TestCase):
    def test_weights_at_their_limits(self):
        for weight, is_so in ((1, True), (1000, True), (0, False), (1001, False), (-1, False), (True, False),
                              ("1", False), (None, False)):
            self.assertIs(is_reason((weight, "ann", "ben", 0)), is_so, weight)

    def test_numbers_at_their_limits(self):
        for number, is_so in NUMBERS:
            self.assertIs(is_reason((5, "ann", "ben", number)), is_so, number)
            self.assertIs(is_bar(("ann", "ben", number)), is_so, number)

    def test_names_in_order(self):
        for one, other, is_so in (
            ("a", "b", True), ("a", "ab", True), ("ab", "b", True), ("abcdefgh", "b", True), ("b", "a", False),
            ("ab", "a", False), ("a", "a", False), ("a", "abcdefghi", False), ("A", "a", False), ("", "a", False),
            ("a", "b1", False), (1, 2, False), (["a"], ["b"], False), ("a", None, False), (None, "b", False),
        ):
            self.assertIs(is_reason((5, one, other, 0)), is_so, (one, other))
            self.assertIs(is_bar((one, other, 0)), is_so, (one, other))

    def test_parts_too_many_and_too_few(self):
        for many in range(4):
            self.assertIs(is_reason(REASON[:many]), False)
            self.assertIs(is_reason(REASON[many + 1:]), False)
        for many in range(3):
            self.assertIs(is_bar(BAR[:many]), False)
            self.assertIs(is_bar(BAR[many + 1:]), False)
        for more in (0, "a", None):
            self.assertIs(is_reason(REASON + (more,)), False)
            self.assertIs(is_bar(BAR + (more,)), False)

    def test_one_is_not_the_other(self):
        self.assertIs(is_reason(REASON), True)
        self.assertIs(is_bar(BAR), True)
        self.assertIs(is_reason(BAR), False)
        self.assertIs(is_bar(REASON), False)

    def test_lists_and_other_kinds(self):
        for thing in ODD_THINGS + [list(REASON), list(BAR), [REASON], (REASON,), "ABCD", "ABC"]:
            self.assertIs(is_reason(thing), False)
            self.assertIs(is_bar(thing), False)
            self.assertIs(is_reason((5, thing, "ben", 0)), False)
            self.assertIs(is_reason((5, "ann", thing, 0)), False)
            self.assertIs(is_bar((thing, "ben", 0)), False)
            self.assertIs(is_bar(("ann", thing, 0)), False)


class GroundTest(unittest.TestCase):
    def test_grounds(self):
        for ground in (GROUND, ((), (), ()), (("ann",), (), ()), (NAMES, (), ()), (NAMES, REASONS, ()),
                       (NAMES, (), BARS), (("a", "ab", "b"), ((1, "a", "ab", 0),), (("ab", "b", 0),))):
            self.assertIs(is_ground(ground), True, ground)

    def test_a_ground_of_thirty_names(self):
        names = tuple(one + other for one in "abc" for other in "abcdefghij")
        reasons = tuple((7, names[at], names[at + 1], 0) for at in range(29))
        self.assertIs(is_ground((names, reasons, ())), True)

    def test_wrong_names(self):
        for names in (("ben", "ann"), ("ann", "ann"), ("ann", "cat", "ben"), ("ann", ""), ("Ann",), ("ann", 1), (1, 2),
                      ["ann", "ben"], "ab", None, ({},), (["a"],)):
            self.assertIs(is_ground((names, (), ())), False, names)

    def test_reasons_out_of_order(self):
        for at in range(len(REASONS) - 1):
            turned = REASONS[:at] + (REASONS[at + 1], REASONS[at]) + REASONS[at + 2:]
            self.assertIs(is_ground((NAMES, turned, BARS)), False, turned)

    def test_bars_out_of_order(self):
        for at in range(len(BARS) - 1):
            turned = BARS[:at] + (BARS[at + 1], BARS[at]) + BARS[at + 2:]
            self.assertIs(is_ground((NAMES, REASONS, turned)), False, turned)

    def test_alike_ones(self):
        for at in range(len(REASONS)):
            self.assertIs(is_ground((NAMES, REASONS[:at + 1] + REASONS[at:], BARS)), False)
        for at in range(len(BARS)):
            self.assertIs(is_ground((NAMES, REASONS, BARS[:at + 1] + BARS[at:])), False)

    def test_names_that_are_not_among_the_names(self):
        for names in (("ann", "ben", "cat"), ("ben", "cat", "dan"), ("ann", "ben"), ()):
            self.assertIs(is_ground((names, REASONS, ())), False, names)
            self.assertIs(is_ground((names, (), BARS)), False, names)
        self.assertIs(is_ground((("ann", "ben"), ((5, "ann", "be", 0),), ())), False)
        self.assertIs(is_ground((("ann", "ben"), ((5, "an", "ben", 0),), ())), False)
        self.assertIs(is_ground((("ann", "ben"), (), (("ann", "be", 0),))), False)
        self.assertIs(is_ground((("ann", "ben"), (), (("an", "ben", 0),))), False)

    def test_wrong_reasons_and_bars(self):
        self.assertIs(is_ground((NAMES, ((True, "ann", "ben", 0),), ())), False)
        self.assertIs(is_ground((NAMES, ((1001, "ann", "ben", 0),), ())), False)
        self.assertIs(is_ground((NAMES, (("ann", "ben", 0),), ())), False)
        self.assertIs(is_ground((NAMES, (), (("ann", "ben", False),))), False)
        self.assertIs(is_ground((NAMES, (), ((5, "ann", "ben", 0),))), False)
        self.assertIs(is_ground((NAMES, (), (("ben", "ann", 0),))), False)

    def test_lists_for_tuples(self):
        for ground in (list(GROUND), (list(NAMES), REASONS, BARS), (NAMES, list(REASONS), BARS),
                       (NAMES, REASONS, list(BARS)), (NAMES, (list(REASON),), BARS), (NAMES, REASONS, (list(BAR),)),
                       ([], (), ()), ((), [], ()), ((), (), [])):
            self.assertIs(is_ground(ground), False, ground)

    def test_parts_too_many_and_too_few(self):
        for ground in ((), (NAMES,), (NAMES, REASONS), GROUND + ((),), (REASONS, NAMES, BARS), (NAMES, BARS, REASONS)):
            self.assertIs(is_ground(ground), False, ground)

    def test_things_of_any_kind(self):
        for thing in ODD_THINGS + ["", "ABC"]:
            self.assertIs(is_ground(thing), False)
            self.assertIs(is_ground((thing, REASONS, BARS)), False)
            self.assertIs(is_ground((NAMES, thing, BARS)), False)
            self.assertIs(is_ground((NAMES, REASONS, thing)), False)
            self.assertIs(is_ground(((thing,), (), ())), False)
            self.assertIs(is_ground((NAMES, (thing,), BARS)), False)
            self.assertIs(is_ground((NAMES, REASONS, (thing,))), False)


class InOrderTest(unittest.TestCase):
    def test_every_order(self):
        for reasons in itertools.permutations(REASONS):
            self.assertEqual(in_order(reasons), list(REASONS))

    def test_a_list_and_a_tuple(self):
        reasons = list(REASONS[::-1])
        told = in_order(reasons)
        self.assertIs(type(told), list)
        self.assertEqual(told, list(REASONS))
        self.assertEqual(reasons, list(REASONS[::-1]))
        self.assertIs(type(in_order(tuple(reasons))), list)
        self.assertEqual(in_order(tuple(reasons)), list(REASONS))
        self.assertEqual(in_order([]), [])
        self.assertEqual(in_order(()), [])

    def test_alike_ones_stay(self):
        self.assertEqual(in_order([REASONS[1], REASONS[0], REASONS[1], REASONS[0], REASONS[1]]),
                         [REASONS[0]] * 2 + [REASONS[1]] * 3)

    def test_each_part_is_weighed_in_its_turn(self):
        self.assertEqual(in_order([(1, "a", "b", 0), (2, "x", "y", 9)]), [(2, "x", "y", 9), (1, "a", "b", 0)])
        self.assertEqual(in_order([(100, "a", "b", 0), (99, "a", "b", 0)]), [(100, "a", "b", 0), (99, "a", "b", 0)])
        self.assertEqual(in_order([(1, "b", "c", 0), (1, "a", "d", 9)]), [(1, "a", "d", 9), (1, "b", "c", 0)])
        self.assertEqual(in_order([(1, "a", "c", 0), (1, "a", "b", 9)]), [(1, "a", "b", 9), (1, "a", "c", 0)])
        self.assertEqual(in_order([(1, "a", "b", 10), (1, "a", "b", 9)]), [(1, "a", "b", 9), (1, "a", "b", 10)])

    def test_the_told_list_is_the_askers_own(self):
        reasons = list(REASONS)
        told = in_order(reasons)
        told.clear()
        self.assertEqual(reasons, list(REASONS))
        self.assertEqual(in_order(reasons), list(REASONS))


RULES = (("same", "mail", 5), ("begin", "name", 2, 7), ("both", "born", "mail", 9), ("never", "born"), ("same", "mail", 5),
         ("never", "town"))
BOOK = read_book("dan: born 1970, mail x, name anna\nann: born 1970, mail x, name annie, town y\nben: mail x\n"
                 "cat: born 1971, name ann, town z\neve:")


class GroundOfTest(unittest.TestCase):
    def test_no_rows_and_one(self):
        self.assertEqual(ground_of((), RULES), ((), (), ()))
        self.assertEqual(ground_of((), ()), ((), (), ()))
        self.assertEqual(ground_of(BOOK[:1], RULES), (("dan",), (), ()))

    def test_no_rules(self):
        self.assertEqual(ground_of(BOOK, ()), (("ann", "ben", "cat", "dan", "eve"), (), ()))

    def test_a_book(self):
        self.assertEqual(ground_of(BOOK, RULES), (
            ("ann", "ben", "cat", "dan", "eve"),
            ((9, "ann", "dan", 2), (7, "ann", "cat", 1), (7, "ann", "dan", 1), (7, "cat", "dan", 1),
             (5, "ann", "ben", 0), (5, "ann", "ben", 4), (5, "ann", "dan", 0), (5, "ann", "dan", 4),
             (5, "ben", "dan", 0), (5, "ben", "dan", 4)),
            (("ann", "cat", 3), ("ann", "cat", 5), ("cat", "dan", 3)),
        ))

    def test_begin_is_weighed_by_its_weight(self):
        book = read_book("a: name xyz\nb: name xyw")
        self.assertEqual(ground_of(book, (("begin", "name", 2, 7),))[1], ((7, "a", "b", 0),))

    def test_names_that_are_beginnings_of_one_another(self):
        book = read_book("b: m x\nab: m x\na: m x")
        self.assertEqual(ground_of(book, (("same", "m", 3),)),
                         (("a", "ab", "b"), ((3, "a", "ab", 0), (3, "a", "b", 0), (3, "ab", "b", 0)), ()))

    def test_bars_are_in_order_as_tuples(self):
        book = read_book("c: m x, n x\nb: m y, n y\na: m z, n z")
        self.assertEqual(ground_of(book, (("never", "m"), ("never", "n")))[2],
                         (("a", "b", 0), ("a", "b", 1), ("a", "c", 0), ("a", "c", 1), ("b", "c", 0), ("b", "c", 1)))

    def test_the_order_of_the_book_does_not_matter(self):
        told = ground_of(BOOK, RULES)
        for book in itertools.permutations(BOOK):
            self.assertEqual(ground_of(book, RULES), told)

    def test_it_is_a_ground(self):
        chance = random.Random(7)
        for _ in range(200):
            book, rules = some_book(chance), some_rules(chance)
            names, reasons, bars = told = ground_of(book, rules)
            self.assertIs(is_ground(told), True, (book, rules))
            self.assertEqual(names, tuple(sorted(row[0] for row in book)))
            expected_reasons, expected_bars = set(), set()
            for one, other in itertools.permutations(book, 2):
                for number, rule in enumerate(rules):
                    if one[0] < other[0] and tells(rule, one, other):
                        if rule[0] == "never":
                            expected_bars.add((one[0], other[0], number))
                        else:
                            expected_reasons.add((rule[-1], one[0], other[0], number))
            self.assertEqual(set(reasons), expected_reasons)
            self.assertEqual(set(bars), expected_bars)
            self.assertEqual(ground_of(book, rules), told)


def some_book(chance):
    names = chance.sample(["a", "ab", "abc", "b", "ba", "c", "ca", "d"], chance.randrange(9))
    return tuple(
        (name, tuple((field, chance.choice(("x", "xy", "xyz", "y"))) for field in "mno" if chance.randrange(3)))
        for name in names
    )


def some_rules(chance):
    choices = (("same", "m", 5), ("same", "n", 5), ("begin", "m", 2, 7), ("begin", "n", 1, 2), ("both", "m", "o", 900),
               ("never", "o"), ("never", "n"))
    return tuple(chance.choice(choices) for _ in range(chance.randrange(8)))


if __name__ == "__main__":
    unittest.main()

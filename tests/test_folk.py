import copy
import itertools
import random
import unittest

from anything import ODD_THINGS
from graphs import put_in_order
from onefolk.errors import NoName, NoReason, NoUndo
from onefolk.folk import Folk
from onefolk.grounds import ground_of, is_ground
from onefolk.rules import tells

RULES = (("same", "mail", 50), ("begin", "mail", 2, 20), ("never", "born"), ("both", "mail", "town", 70))
ANN = ("ann", (("born", "1970"), ("mail", "ann7")))
BEN = ("ben", (("mail", "ann7"),))
CAT = ("cat", (("born", "1971"), ("mail", "an")))
NAMES = ("ann", "ben", "cat", "dan")


def folk_of(*rows):
    folk = Folk(RULES)
    for row in rows:
        folk.put(row)
    return folk


def state_of(folk):
    return (folk.book(), folk.ground())


def ground_anew(rules, rows, told, barred, struck):
    """The ground of what stands, put together pair by pair."""
    by_name = {row[0]: row for row in rows}
    reasons, bars = set(), set()
    for one, other in itertools.combinations(sorted(by_name), 2):
        for number, rule in enumerate(rules):
            if tells(rule, by_name[one], by_name[other]):
                if rule[0] == "never":
                    bars.add((one, other, number))
                else:
                    reasons.add((rule[-1], one, other, number))
    reasons |= {reason for reason in told if reason[1] in by_name and reason[2] in by_name}
    bars |= {bar for bar in barred if bar[0] in by_name and bar[1] in by_name}
    return (tuple(sorted(by_name)), put_in_order(reasons - set(struck)), tuple(sorted(bars)))


class Model:
    """Folk in the plainest way: whole copies of what stands ahead of each deed."""

    def __init__(self):
        self.now = {"rows": [], "told": set(), "barred": set(), "struck": set()}
        self.past = []

    def do(self, word, *things):
        if word == "undo":
            if not self.past:
                return NoUndo
            self.now = self.past.pop()
            return None
        ahead = copy.deepcopy(self.now)
        refusal = getattr(self, word)(*things)
        if refusal is None:
            self.past.append(ahead)
        return refusal

    def put(self, row):
        if row[0] in [other[0] for other in self.now["rows"]]:
            return NoName
        self.now["rows"].append(row)

    def drop(self, name):
        if name not in [other[0] for other in self.now["rows"]]:
            return NoName
        self.now["rows"] = [row for row in self.now["rows"] if row[0] != name]

    def add(self, sort, thing):
        if thing in self.now[sort]:
            return NoReason
        self.now[sort].add(thing)

    def take(self, sort, thing):
        if thing not in self.now[sort]:
            return NoReason
        self.now[sort].remove(thing)

    def tell(self, one, other, weight):
        return NoName if one == other else self.add("told", (weight, *sorted([one, other]), 100))

    def untell(self, one, other, weight):
        return NoName if one == other else self.take("told", (weight, *sorted([one, other]), 100))

    def bar(self, one, other):
        return NoName if one == other else self.add("barred", (*sorted([one, other]), 100))

    def unbar(self, one, other):
        return NoName if one == other else self.take("barred", (*sorted([one, other]), 100))

    def strike(self, reason):
        return self.add("struck", reason)

    def unstrike(self, reason):
        return self.take("struck", reason)


def some_row(chance):
    words = tuple((field, chance.choice(["a", "ab", "abc", "ba"])) for field in ("born", "mail", "town")
                  if chance.random() < 0.6)
    return (chance.choice(NAMES), words)


def some_deed(chance):
    word = chance.choice(["put", "put", "put", "drop", "tell", "untell", "bar", "unbar", "strike", "unstrike", "undo"])
    one, other = chance.choice(NAMES), chance.choice(NAMES)
    if word == "put":
        return (word, some_row(chance))
    if word == "drop":
        return (word, one)
    if word in ("tell", "untell"):
        return (word, one, other, chance.choice([1, 50]))
    if word in ("bar", "unbar"):
        return (word, one, other)
    if word == "undo":
        return (word,)
    one, other = sorted(chance.sample(NAMES, 2))
    return (word, chance.choice([(50, one, other, 0), (20, one, other, 1), (50, one, other, 100), (1, one, other, 100)]))


class DeedsTest(unittest.TestCase):
    def test_at_first_there_are_none_but_rules(self):
        folk = Folk(RULES)
        self.assertEqual(state_of(folk), ((), ((), (), ())))
        self.assertEqual(state_of(Folk(())), ((), ((), (), ())))

    def test_every_deed_tells_none(self):
        folk = Folk(RULES)
        for word, *things in (("put", ANN), ("put", BEN), ("tell", "ann", "ben", 7), ("untell", "ben", "ann", 7),
                              ("bar", "ann", "ben"), ("unbar", "ben", "ann"), ("strike", (7, "a", "b", 0)),
                              ("unstrike", (7, "a", "b", 0)), ("drop", "ann"), ("undo",)):
            self.assertIsNone(getattr(folk, word)(*things), word)

    def test_rows_tell_reasons_and_bars(self):
        folk = folk_of(CAT, ANN, BEN)
        self.assertEqual(folk.book(), (CAT, ANN, BEN))
        reasons = ((50, "ann", "ben", 0), (20, "ann", "ben", 1), (20, "ann", "cat", 1), (20, "ben", "cat", 1))
        self.assertEqual(folk.ground(), (("ann", "ben", "cat"), reasons, (("ann", "cat", 2),)))

    def test_each_deed_done_undone_and_done_anew(self):
        folk = folk_of(ANN, BEN, CAT)
        folk.tell("ann", "cat", 5)
        folk.bar("ben", "cat")
        folk.strike((20, "ann", "ben", 1))
        ahead = state_of(folk)
        for word, *things in (("put", ("dan", ())), ("drop", "ben"), ("tell", "cat", "ann", 6), ("untell", "ann", "cat", 5),
                              ("bar", "ann", "ben"), ("unbar", "cat", "ben"), ("strike", (50, "ann", "ben", 0)),
                              ("unstrike", (20, "ann", "ben", 1))):
            getattr(folk, word)(*things)
            behind = state_of(folk)
            self.assertNotEqual(behind, ahead, word)
            for _ in range(2):
                folk.undo()
                self.assertEqual(state_of(folk), ahead, word)
                getattr(folk, word)(*things)
                self.assertEqual(state_of(folk), behind, word)
            folk.undo()
        for _ in range(6):
            folk.undo()
        self.assertEqual(state_of(folk), state_of(Folk(RULES)))
        with self.assertRaises(NoUndo):
            folk.undo()

    def test_undone_to_the_beginning(self):
        folk = Folk(RULES)
        for _ in range(2):
            with self.assertRaises(NoUndo):
                folk.undo()
        folk.put(ANN)
        folk.undo()
        for _ in range(2):
            with self.assertRaises(NoUndo):
                folk.undo()
        self.assertEqual(state_of(folk), state_of(Folk(RULES)))
        folk.put(BEN)
        self.assertEqual(folk.book(), (BEN,))

    def test_undo_is_no_deed(self):
        folk = folk_of(ANN, BEN)
        folk.undo()
        folk.undo()
        self.assertEqual(folk.book(), ())
        folk.put(CAT)
        folk.put(ANN)
        folk.undo()
        folk.put(BEN)
        folk.undo()
        folk.undo()
        self.assertEqual(folk.book(), ())
        with self.assertRaises(NoUndo):
            folk.undo()

    def test_undo_behind_a_drop_puts_the_row_back_in_its_place(self):
        for at in range(3):
            folk = folk_of(CAT, ANN, BEN)
            folk.drop((CAT, ANN, BEN)[at][0])
            self.assertEqual(len(folk.book()), 2)
            folk.undo()
            self.assertEqual(folk.book(), (CAT, ANN, BEN))

    def test_a_row_dropped_and_put_again_stands_last(self):
        folk = folk_of(CAT, ANN, BEN)
        ground = folk.ground()
        folk.drop("ann")
        self.assertEqual(folk.ground(), ground_of((CAT, BEN), RULES))
        folk.put(ANN)
        self.assertEqual(folk.book(), (CAT, BEN, ANN))
        self.assertEqual(folk.ground(), ground)
        folk.undo()
        folk.undo()
        self.assertEqual(folk.book(), (CAT, ANN, BEN))

    def test_another_row_of_a_dropped_name(self):
        folk = folk_of(ANN, BEN)
        folk.drop("ann")
        folk.put(("ann", ()))
        self.assertEqual(folk.ground(), (("ann", "ben"), (), ()))
        folk.undo()
        folk.undo()
        self.assertEqual(folk.ground(), ground_of((ANN, BEN), RULES))

    def test_told_things_whose_rows_do_not_stand_yet(self):
        folk = Folk(RULES)
        folk.tell("dan", "ann", 9)
        folk.bar("dan", "ann")
        self.assertEqual(folk.ground(), ((), (), ()))
        folk.put(ANN)
        self.assertEqual(folk.ground(), (("ann",), (), ()))
        folk.put(("dan", ()))
        self.assertEqual(folk.ground(), (("ann", "dan"), ((9, "ann", "dan", 100),), (("ann", "dan", 100),)))
        folk.drop("ann")
        self.assertEqual(folk.ground(), (("dan",), (), ()))
        folk.put(ANN)
        self.assertEqual(folk.ground(), (("ann", "dan"), ((9, "ann", "dan", 100),), (("ann", "dan", 100),)))
        folk.untell("ann", "dan", 9)
        folk.unbar("ann", "dan")
        self.assertEqual(folk.ground(), (("ann", "dan"), (), ()))

    def test_struck_reasons_of_rules(self):
        folk = Folk(RULES)
        folk.strike((50, "ann", "ben", 0))
        folk.put(ANN)
        folk.put(BEN)
        self.assertEqual(folk.ground(), (("ann", "ben"), ((20, "ann", "ben", 1),), ()))
        folk.drop("ann")
        folk.put(ANN)
        self.assertEqual(folk.ground(), (("ann", "ben"), ((20, "ann", "ben", 1),), ()))
        folk.unstrike((50, "ann", "ben", 0))
        self.assertEqual(folk.ground(), ground_of((ANN, BEN), RULES))

    def test_struck_reasons_that_are_told(self):
        folk = folk_of(("ann", ()), ("ben", ()))
        folk.strike((9, "ann", "ben", 100))
        folk.tell("ann", "ben", 9)
        self.assertEqual(folk.ground()[1], ())
        folk.tell("ann", "ben", 8)
        self.assertEqual(folk.ground()[1], ((8, "ann", "ben", 100),))
        folk.untell("ann", "ben", 9)
        folk.unstrike((9, "ann", "ben", 100))
        self.assertEqual(folk.ground()[1], ((8, "ann", "ben", 100),))
        folk.tell("ann", "ben", 9)
        self.assertEqual(folk.ground()[1], ((9, "ann", "ben", 100), (8, "ann", "ben", 100)))

    def test_struck_reasons_that_nothing_tells(self):
        folk = folk_of(ANN, BEN)
        ground = folk.ground()
        for reason in ((51, "ann", "ben", 0), (50, "ann", "ben", 1), (50, "ann", "bena", 0), (1000, "x", "y", 999999)):
            folk.strike(reason)
            self.assertEqual(folk.ground(), ground)
        folk.unstrike((50, "ann", "bena", 0))
        self.assertEqual(folk.ground(), ground)

    def test_bars_are_not_struck_with_reasons(self):
        folk = folk_of(("ann", ()), ("ben", ()))
        folk.bar("ann", "ben")
        folk.tell("ann", "ben", 1)
        folk.strike((1, "ann", "ben", 100))
        self.assertEqual(folk.ground(), (("ann", "ben"), (), (("ann", "ben", 100),)))

    def test_told_things_stand_in_order_among_those_of_the_rules(self):
        folk = folk_of(ANN, BEN, CAT)
        for weight in (20, 1000, 1, 50):
            folk.tell("ben", "ann", weight)
        folk.bar("ben", "ann")
        folk.bar("cat", "ann")
        ground = folk.ground()
        self.assertTrue(is_ground(ground))
        self.assertEqual([reason for reason in ground[1] if reason[1:3] == ("ann", "ben")],
                         [(1000, "ann", "ben", 100), (50, "ann", "ben", 0), (50, "ann", "ben", 100), (20, "ann", "ben", 1),
                          (20, "ann", "ben", 100), (1, "ann", "ben", 100)])
        self.assertEqual(ground[2], (("ann", "ben", 100), ("ann", "cat", 2), ("ann", "cat", 100)))

    def test_some_rows_of_deeds(self):
        chance = random.Random(41)
        for _ in range(300):
            folk, model = Folk(RULES), Model()
            for _ in range(chance.randrange(5, 30)):
                word, *things = some_deed(chance)
                ahead = state_of(folk)
                refusal = model.do(word, *things)
                if refusal is None:
                    self.assertIsNone(getattr(folk, word)(*things))
                else:
                    with self.assertRaises(refusal):
                        getattr(folk, word)(*things)
                    self.assertEqual(state_of(folk), ahead)
                self.assertEqual(folk.book(), tuple(model.now["rows"]))
                self.assertEqual(folk.ground(), ground_anew(RULES, *model.now.values()))
                self.assertTrue(is_ground(folk.ground()))
            while model.past:
                model.do("undo")
                folk.undo()
                self.assertEqual(folk.book(), tuple(model.now["rows"]))
                self.assertEqual(folk.ground(), ground_anew(RULES, *model.now.values()))
            with self.assertRaises(NoUndo):
                folk.undo()

    def test_the_order_of_deeds_is_nothing_to_the_ground(self):
        chance = random.Random(42)
        for _ in range(200):
            deeds = [("put", (name, some_row(chance)[1])) for name in chance.sample(NAMES, 3)]
            for one, other in itertools.combinations(NAMES, 2):
                some = [("tell", one, other, 1), ("tell", other, one, 50), ("bar", one, other),
                        ("strike", (50, one, other, 0)), ("strike", (1, one, other, 100))]
                deeds += chance.sample(some, chance.randrange(3))
            grounds = set()
            for _ in range(5):
                chance.shuffle(deeds)
                folk = Folk(RULES)
                for word, *things in deeds:
                    getattr(folk, word)(*things)
                grounds.add(folk.ground())
            self.assertEqual(len(grounds), 1)

    def test_books_that_come_later_tell_what_all_at_once_would(self):
        chance = random.Random(43)
        for _ in range(100):
            book = tuple((name, some_row(chance)[1]) for name in chance.sample(NAMES, 4))
            folk = Folk(RULES)
            for row in book:
                folk.put(row)
                folk.ground()
            self.assertEqual(folk.ground(), ground_of(book, RULES))

    def test_two_folk_do_not_meet(self):
        one, other = Folk(RULES), Folk(RULES)
        one.put(ANN)
        one.tell("ann", "ben", 1)
        one.bar("ann", "ben")
        one.strike((50, "ann", "ben", 0))
        self.assertEqual(state_of(other), ((), ((), (), ())))
        with self.assertRaises(NoUndo):
            other.undo()
        other.put(ANN)
        other.put(BEN)
        self.assertEqual(other.ground(), ground_of((ANN, BEN), RULES))
        other.tell("ann", "ben", 1)
        other.strike((50, "ann", "ben", 0))
        self.assertEqual(one.book(), (ANN,))

    def test_what_was_told_stays_as_it_was(self):
        folk = folk_of(ANN, BEN)
        book, ground = folk.book(), folk.ground()
        kept = copy.deepcopy((book, ground))
        folk.drop("ann")
        folk.tell("ann", "ben", 1)
        folk.put(CAT)
        self.assertEqual((book, ground), kept)
        self.assertTrue(all(isinstance(part, tuple) for part in (book, ground, *ground)))


class RefusalsTest(unittest.TestCase):
    """Each refusal changes nothing, and isn't what undo takes back."""

    def setUp(self):
        self.folk = folk_of(BEN, ANN)
        self.folk.tell("ann", "ben", 1)
        self.folk.bar("ann", "ben")
        self.folk.strike((20, "ann", "ben", 1))
        self.folk.put(CAT)
        self.ahead = state_of(self.folk)

    def tearDown(self):
        # The last deed is still the put of CAT, and each of those ahead of it is still there.
        self.assertEqual(state_of(self.folk), self.ahead)
        self.folk.undo()
        self.assertEqual(self.folk.book(), (BEN, ANN))
        for word, *things in (("strike", (20, "ann", "ben", 1)), ("bar", "ann", "ben"), ("tell", "ann", "ben", 1)):
            with self.assertRaises(NoReason):
                getattr(self.folk, word)(*things)
            self.folk.undo()
            getattr(self.folk, word)(*things)
            self.folk.undo()
        self.folk.undo()
        self.folk.undo()
        with self.assertRaises(NoUndo):
            self.folk.undo()

    def refused(self, error, word, *things):
        with self.assertRaises(error) as caught:
            getattr(self.folk, word)(*things)
        self.assertIs(caught.exception.__class__, error)
        self.assertEqual(state_of(self.folk), self.ahead)
        return caught.exception

    def refused_name(self, name, word, *things):
        self.assertIs(self.refused(NoName, word, *things).name, name)

    def test_put_where_the_name_stands(self):
        for row in (ANN, BEN, CAT, ("ann", ())):
            self.refused_name(row[0], "put", row)

    def test_drop_of_other_names(self):
        for name in ("dan", "an", "anna", "x"):
            self.refused_name(name, "drop", name)

    def test_drop_of_things_of_any_kind(self):
        for thing in ODD_THINGS + ["", "Ann", "ann ", "abcdefghi", ["ann"], ("ann",), {"ann": 1}, b"ann", ANN]:
            self.refused_name(thing, "drop", thing)

    def test_no_names_of_any_kind(self):
        for thing in ODD_THINGS + ["", "Ann", "ann ", "a-b", "abcdefghi", ["ann"], ("ann",), {"ann": 1}, b"ann"]:
            for word, *rest in (("tell", 5), ("untell", 1), ("bar",), ("unbar",), ("tell", 0), ("tell", "x")):
                self.refused_name(thing, word, thing, "ann", *rest)
                self.refused_name(thing, word, "ann", thing, *rest)
                self.refused_name(thing, word, thing, thing, *rest)
                self.refused_name(thing, word, thing, ["b"], *rest)

    def test_the_first_of_two(self):
        one, other = ["x"], {"y": 1}
        for word, *rest in (("tell", 5), ("untell", 1), ("bar",), ("unbar",)):
            self.refused_name(one, word, one, other, *rest)
            self.refused_name(other, word, other, one, *rest)

    def test_two_alike_names(self):
        for name in ("ann", "dan"):
            second = "".join(list(name))
            for word, *rest in (("tell", 5), ("untell", 1), ("bar",), ("unbar",), ("tell", 0), ("tell", True)):
                self.refused_name(second, word, name, second, *rest)

    def test_weights_that_are_none(self):
        for weight in ODD_THINGS + [0, -1, 1001, True, False, "1", "", (1,), [1]]:
            if isinstance(weight, int) and not isinstance(weight, bool) and 1 <= weight <= 1000:
                continue
            for word in ("tell", "untell"):
                self.refused(NoReason, word, "ann", "ben", weight)
                self.refused(NoReason, word, "ben", "ann", weight)

    def test_told_already(self):
        self.refused(NoReason, "tell", "ann", "ben", 1)
        self.refused(NoReason, "tell", "ben", "ann", 1)

    def test_not_told(self):
        for one, other, weight in (("ann", "ben", 2), ("ann", "cat", 1), ("ben", "cat", 1), ("ann", "dan", 1),
                                   ("ann", "ben", 50)):
            self.refused(NoReason, "untell", one, other, weight)
            self.refused(NoReason, "untell", other, one, weight)

    def test_barred_already_and_not_barred(self):
        self.refused(NoReason, "bar", "ann", "ben")
        self.refused(NoReason, "bar", "ben", "ann")
        for one, other in (("ann", "cat"), ("cat", "ann"), ("ann", "dan")):
            self.refused(NoReason, "unbar", one, other)

    def test_struck_already_and_not_struck(self):
        self.refused(NoReason, "strike", (20, "ann", "ben", 1))
        for reason in ((20, "ann", "ben", 0), (50, "ann", "ben", 0), (1, "ann", "ben", 100), (20, "ann", "cat", 1)):
            self.refused(NoReason, "unstrike", reason)

    def test_things_that_are_no_reasons(self):
        for thing in ODD_THINGS + [
                (True, "ann", "ben", 1), (20, "ann", "ben", True), (1, "ann", "ben", False), [20, "ann", "ben", 1],
                (20, "ben", "ann", 1), (20, "ann", "ann", 1), (0, "ann", "ben", 1), (1001, "ann", "ben", 1),
                (20, "ann", "ben", -1), (20, "ann", "ben"), (20, "ann", "ben", 1, 1), ("ann", "ben", 1), (20, ["ann"], "ben", 1),
                (20, "ann", {"ben": 1}, 1), ("20", "ann", "ben", 1), "ann-ben 20 1", (20, "Ann", "ben", 1)]:
            self.refused(NoReason, "strike", thing)
            self.refused(NoReason, "unstrike", thing)

    def test_struck_with_a_truth_for_a_number(self):
        self.folk.strike((1, "ann", "ben", 1))
        self.ahead = state_of(self.folk)
        for thing in ((True, "ann", "ben", 1), (1, "ann", "ben", True)):
            self.refused(NoReason, "strike", thing)
            self.refused(NoReason, "unstrike", thing)
        self.folk.undo()


class AgainTest(unittest.TestCase):
    def test_a_deed_behind_a_refusal_is_the_one_undone(self):
        folk = folk_of(ANN)
        folk.put(BEN)
        for word, *things in (("put", ANN), ("drop", "x"), ("tell", "a", "a", 1), ("untell", "a", "b", 1), ("bar", "a", 1),
                              ("unbar", "a", "b"), ("strike", None), ("unstrike", (1, "a", "b", 0))):
            with self.assertRaises((NoName, NoReason)):
                getattr(folk, word)(*things)
        folk.undo()
        self.assertEqual(folk.book(), (ANN,))

    def test_taken_away_and_told_again(self):
        folk = folk_of(ANN, BEN)
        for _ in range(3):
            folk.tell("ben", "ann", 3)
            folk.bar("ben", "ann")
            folk.strike((3, "ann", "ben", 100))
            folk.unstrike((3, "ann", "ben", 100))
            folk.untell("ann", "ben", 3)
            folk.unbar("ann", "ben")
        self.assertEqual(folk.ground(), ground_of((ANN, BEN), RULES))


if __name__ == "__main__":
    unittest.main()

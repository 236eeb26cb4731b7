import copy
import random
import unittest

from anything import ODD_THINGS
from onefolk.asks import answer, are_worlds, asks_of
from worlds import some_worlds, true_answer, true_asks

WORLD = (("a", "c"), ("b",), ("d", "e", "f"))


class WorldsTest(unittest.TestCase):
    def test_worlds(self):
        for worlds in (((),), (WORLD,), (WORLD, ()), ((), (("a",),), (("a", "b"),), (("a",), ("b",)))):
            self.assertIs(are_worlds(worlds), True, worlds)
        chance = random.Random(93)
        for _ in range(100):
            self.assertIs(are_worlds(some_worlds(chance)), True)

    def test_at_most_eight_worlds_and_names(self):
        worlds = tuple(tuple((name,) for bit, name in enumerate("abcd") if number >> bit & 1) for number in range(9))
        self.assertIs(are_worlds(worlds[:8]), True)
        self.assertIs(are_worlds(worlds), False)
        self.assertIs(are_worlds((tuple((name,) for name in "abcdefgh"), ())), True)
        self.assertIs(are_worlds((tuple((name,) for name in "abcdefghi"), ())), False)
        self.assertIs(are_worlds(((tuple("abcde"),), (tuple("fghi"),))), False)

    def test_other_things(self):
        for thing in ((), [WORLD], (WORLD, WORLD), (list(WORLD),), (WORLD, None), WORLD, ((("b",), ("a",)),), ((("a",), ("a",)),),
                      (((),),), ((("b", "a"),),), ((["a"],),), ((("a", "b"), ("b",)),), ((("A",),),), "a", None):
            self.assertIs(are_worlds(thing), False, thing)
        for thing in ODD_THINGS:
            # A tuple of one empty tuple is the one world where nobody stands.
            if not isinstance(thing, tuple) or thing not in (((),), ((), ())):
                self.assertIs(are_worlds(thing), False)


class AsksTest(unittest.TestCase):
    def test_no_names(self):
        self.assertEqual(asks_of(((),)), [])

    def test_one_name(self):
        self.assertEqual(asks_of(((("a",),),)), [("stands", "a")])
        self.assertEqual(asks_of(((), (("a",),))), [("stands", "a")])

    def test_in_order(self):
        self.assertEqual(asks_of(((("a", "c"), ("b",)),)), [
            ("stands", "a"), ("stands", "b"), ("stands", "c"), ("one", "a", "b"), ("one", "a", "c"), ("one", "b", "c")])

    def test_names_that_stand_in_some_worlds_alone(self):
        for worlds in (((("b",),), (("a",),)), ((("a",),), (("b",),)), ((("a", "b"),), ()), ((), (("a",), ("b",)))):
            self.assertEqual(asks_of(worlds), [("stands", "a"), ("stands", "b"), ("one", "a", "b")])

    def test_eight_names(self):
        asks = asks_of((tuple((name,) for name in "abcdefgh"),))
        self.assertEqual(len(asks), 36)
        self.assertEqual(asks[7:9], [("stands", "h"), ("one", "a", "b")])
        self.assertEqual(asks[-1], ("one", "g", "h"))

    def test_some_worlds(self):
        chance = random.Random(91)
        for _ in range(200):
            worlds = some_worlds(chance)
            self.assertEqual(asks_of(worlds), true_asks(worlds))

    def test_the_told_list_is_the_askers_own(self):
        kept = copy.deepcopy(asks_of((WORLD,)))
        told = asks_of((WORLD,))
        self.assertIs(type(told), list)
        told.clear()
        self.assertEqual(asks_of((WORLD,)), kept)


class AnswerTest(unittest.TestCase):
    def test_stands(self):
        for name in "abcdef":
            self.assertIs(answer(WORLD, ("stands", name)), True)
        for name in ("g", "ab", "aa"):
            self.assertIs(answer(WORLD, ("stands", name)), False)
        self.assertIs(answer((), ("stands", "a")), False)

    def test_one(self):
        for one, other, told in (("a", "c", True), ("d", "f", True), ("e", "f", True), ("a", "b", False), ("c", "d", False),
                                 ("a", "g", False), ("b", "x", False), ("x", "y", False)):
            self.assertIs(answer(WORLD, ("one", one, other)), told)
        self.assertIs(answer((), ("one", "a", "b")), False)

    def test_some_worlds(self):
        chance = random.Random(92)
        for _ in range(200):
            worlds = some_worlds(chance)
            for ask in asks_of(worlds):
                for world in worlds:
                    self.assertIs(answer(world, ask), true_answer(world, ask))


if __name__ == "__main__":
    unittest.main()

import unittest

from anything import ODD_THINGS
from goodness import joinings
from onefolk.sets import are_sets, is_set, names_in

# A tuple of one word is a set of one name.
NO_SETS = [thing for thing in ODD_THINGS if not isinstance(thing, tuple) or thing not in (("same",), ("never",))]


class SetTest(unittest.TestCase):
    def test_sets(self):
        for thing in (("a",), ("a", "b"), ("a", "ab", "b")):
            self.assertIs(is_set(thing), True)
        for thing in NO_SETS + [(), ("b", "a"), ("a", "a"), ["a"], "a", ("A",), ("abcdefghi",), ("a", 1)]:
            self.assertIs(is_set(thing), False)

    def test_tuples_of_sets(self):
        for sets in joinings(["a", "ab", "b", "c"]):
            self.assertIs(are_sets(tuple(sets)), True)
            self.assertIs(are_sets(sets), False)
            self.assertEqual(names_in(sets), ["a", "ab", "b", "c"])
        self.assertIs(are_sets(()), True)

    def test_other_tuples(self):
        for thing in ((("b",), ("a",)), (("a",), ("a",)), (("a", "b"), ("b",)), (("a", "b"), ("b", "c")),
                      (("a", "c"), ("b", "c")), (("a",), ()), ((),), (["a"],), ("a",), ("a", "b"), (("b", "a"),),
                      (("a",), ("b", 1)), (("a",), None)):
            self.assertIs(are_sets(thing), False, thing)
        for thing in NO_SETS:
            self.assertIs(are_sets(thing), False)
            self.assertIs(are_sets((("a",), thing)), False)


if __name__ == "__main__":
    unittest.main()

import unittest

from anything import ODD_THINGS
from graphs import chain, ring, some_grounds, true_parts
from onefolk.errors import NoName
from onefolk.parts import part_of, parts_of


class PartsTest(unittest.TestCase):
    def test_no_names(self):
        self.assertEqual(parts_of(((), (), ())), [])

    def test_single_names(self):
        self.assertEqual(parts_of((("a", "ab", "b"), (), ())), [("a",), ("ab",), ("b",)])

    def test_a_chain(self):
        names, reasons, bars = chain(30)
        self.assertEqual(parts_of((names, reasons, bars)), [names])
        for reason in reasons:
            cut = tuple(other for other in reasons if other != reason)
            at = names.index(reason[2])
            self.assertEqual(parts_of((names, cut, bars)), [names[:at], names[at:]])

    def test_a_ring(self):
        names, reasons, bars = ring(30)
        self.assertEqual(len(names), 30)
        self.assertEqual(parts_of((names, reasons, bars)), [names])
        for at in range(30):
            self.assertEqual(parts_of((names, reasons[:at] + reasons[at + 1:], bars)), [names])

    def test_parts_that_lie_within_one_another(self):
        ground = (("a", "b", "c", "d", "e"), ((9, "b", "e", 0), (5, "a", "d", 0)), ())
        self.assertEqual(parts_of(ground), [("a", "d"), ("b", "e"), ("c",)])

    def test_parts_joined_late_and_by_their_last_names(self):
        ground = (("a", "b", "c", "d", "e"), ((9, "c", "d", 0), (8, "b", "e", 0), (7, "d", "e", 0), (6, "a", "e", 0)), ())
        self.assertEqual(parts_of(ground), [("a", "b", "c", "d", "e")])

    def test_names_that_are_beginnings_of_one_another(self):
        ground = (("a", "ab", "abc", "b", "bc"), ((5, "a", "b", 0), (5, "ab", "bc", 0)), ())
        self.assertEqual(parts_of(ground), [("a", "b"), ("ab", "bc"), ("abc",)])

    def test_bars_aside(self):
        names, reasons = ("a", "b", "c"), ((5, "a", "b", 0),)
        for bars in ((), (("a", "b", 1),), (("a", "b", 1), ("a", "c", 1), ("b", "c", 1))):
            self.assertEqual(parts_of((names, reasons, bars)), [("a", "b"), ("c",)])
            self.assertEqual(part_of((names, reasons, bars), "b"), ("a", "b"))

    def test_some_grounds(self):
        for ground in some_grounds(1, 500):
            self.assertEqual(parts_of(ground), true_parts(ground[0], ground[1]), ground)

    def test_the_told_list_is_the_askers_own(self):
        ground = ring(5)
        told = parts_of(ground)
        self.assertIs(type(told), list)
        self.assertIs(type(told[0]), tuple)
        told.append("more")
        told[0] = ()
        self.assertEqual(parts_of(ground), [ground[0]])
        self.assertEqual(ground, ring(5))


class PartTest(unittest.TestCase):
    def test_each_name(self):
        for ground in some_grounds(2, 200):
            for part in true_parts(ground[0], ground[1]):
                for name in part:
                    self.assertEqual(part_of(ground, name), part)
                    self.assertIs(type(part_of(ground, name)), tuple)

    def test_names_that_are_not_among_the_names(self):
        for ground in (((), (), ()), ring(4), (("ab",), (), ())):
            for name in ("a", "b", "abc", "", "AB", "ab ", "x" * 9):
                with self.assertRaises(NoName) as caught:
                    part_of(ground, name)
                self.assertEqual(caught.exception.name, name)

    def test_things_that_are_no_names(self):
        ground = (("a", "b"), ((5, "a", "b", 0),), ())
        for thing in ODD_THINGS + [["a"], {"a": 1}, ("a",), ("a", "b"), b"a", (5, "a", "b", 0)]:
            with self.assertRaises(NoName) as caught:
                part_of(ground, thing)
            self.assertIs(caught.exception.name, thing)
        self.assertEqual(part_of(ground, "a"), ("a", "b"))


if __name__ == "__main__":
    unittest.main()

import unittest

from anything import ODD_THINGS
from onefolk.basics import are_rising, is_tuple, is_whole, is_worded, number_in


class WholeTest(unittest.TestCase):
    def test_whole_numbers(self):
        for thing in (0, 1, -1, 10 ** 30):
            self.assertIs(is_whole(thing), True)
        for thing in ODD_THINGS + ["1", "a"]:
            if type(thing) is not int:
                self.assertIs(is_whole(thing), False)


class TupleTest(unittest.TestCase):
    def test_so_many_parts(self):
        for thing, many, is_so in (((), 0, True), ((1,), 1, True), ((1, 2), 2, True), ((), 1, False), ((1,), 0, False),
                                   ((1, 2), 3, False), ([], 0, False), ([1], 1, False), ("a", 1, False), ("", 0, False)):
            self.assertIs(is_tuple(thing, many), is_so, thing)
        for thing in ODD_THINGS:
            self.assertIs(is_tuple(thing, 7), False)

    def test_a_word_first(self):
        for thing, is_so in ((("told", 0), True), (("told", None), True), (("tell", 0), False), (("told",), False),
                             (("told", 0, 0), False), (["told", 0], False), ((0, "told"), False), ((b"told", 0), False)):
            self.assertIs(is_worded(thing, "told", 2), is_so, thing)
        for thing in ODD_THINGS:
            self.assertIs(is_worded(thing, "told", 2), False)
            self.assertIs(is_worded((thing, thing), "told", 2), False)


class NumberTest(unittest.TestCase):
    def test_written_numbers(self):
        for text, number in (("0", 0), ("1", 1), ("9", 9), ("10", 10), ("100000", 100000), ("999999", 999999)):
            self.assertEqual(number_in(text), number)

    def test_other_texts(self):
        for text in ("", "00", "01", "000000", "1000000", "-1", "+1", " 1", "1 ", "1\n", "a", "1a", "1_0", "\u0661", "\u00b2"):
            self.assertIsNone(number_in(text), repr(text))


class RisingTest(unittest.TestCase):
    def test_rising(self):
        for things, is_so in (((), True), ((1,), True), ((1, 2), True), ((1, 1), False), ((2, 1), False),
                              ((1, 2, 2), False), ((1, 3, 2), False), (["a", "ab", "b"], True)):
            self.assertIs(are_rising(things), is_so, things)


if __name__ == "__main__":
    unittest.main()

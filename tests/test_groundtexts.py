import itertools
import random
import unittest

from anything import ODD_THINGS
from goodness import joinings
from graphs import chain, put_in_order, ring, some_grounds
from onefolk import errors
from onefolk.booktexts import read_book, show_book
from onefolk.folk import Folk
from onefolk.grounds import is_ground
from onefolk.groundtexts import read_ground, read_joining, show_ground, show_joining
from onefolk.parts import parts_of
from pairings import some_joining
from signs import ground_by_signs, joining_by_signs, spoilt

NAMES = ("ann", "ben", "cat")
WRITTEN = (
    (((), (), ()), "names"),
    ((("a",), (), ()), "names a"),
    ((("a", "ab", "b"), (), ()), "names a ab b"),
    ((("names",), (), ()), "names names"),
    ((NAMES, ((5, "ann", "ben", 0),), ()), "names ann ben cat\nann-ben 5 0"),
    ((NAMES, (), (("ann", "ben", 0),)), "names ann ben cat\nann/ben 0"),
    ((NAMES, ((1000, "ann", "ben", 100), (1, "ann", "cat", 0)), (("ann", "ben", 100), ("ben", "cat", 999999))),
     "names ann ben cat\nann-ben 1000 100\nann-cat 1 0\nann/ben 100\nben/cat 999999"),
    ((NAMES, ((10, "ben", "cat", 0), (9, "ann", "ben", 2), (9, "ann", "ben", 10), (9, "ann", "cat", 999999)), ()),
     "names ann ben cat\nben-cat 10 0\nann-ben 9 2\nann-ben 9 10\nann-cat 9 999999"),
    ((("abcdefgh", "zzzzzzzz"), (), (("abcdefgh", "zzzzzzzz", 2), ("abcdefgh", "zzzzzzzz", 10))),
     "names abcdefgh zzzzzzzz\nabcdefgh/zzzzzzzz 2\nabcdefgh/zzzzzzzz 10"),
)

WRITTEN_JOININGS = (
    ([], ""),
    ([("a",)], "a"),
    ([("a", "b", "c")], "a b c"),
    ([("a", "b"), ("c",)], "a b | c"),
    ([("a",), ("b",), ("c",)], "a | b | c"),
    ([("a", "c"), ("ab", "zzzzzzzz"), ("b",)], "a c | ab zzzzzzzz | b"),
    ([("none",)], "none"),
)

# Rows that are none, whatever stands about them.
WRONG_ROWS = (
    "", " ", "-", "/", "a", "a-b", "a/b", "a-b 5", "a-b 5 ", "a/b ", "a-b 5 0 ", " a-b 5 0", "a-b  5 0", "a-b 5  0",
    "a -b 5 0",
    "a- b 5 0", "a-b 5 0 0", "a/b 0 0", "a/b 5 0 0", " a/b 0", "a/b  0", "a/b 0 ", "a--b 5 0", "a//b 0", "a-b-c 5 0",
    "a/b/c 0",
    "a-/b 5 0", "a b 5 0", "a,b 5 0", "a-b,5,0", "a-b 5, 0", "a-b 5-0", "a/b-0", "a:b 5 0", "A-b 5 0", "a-B 5 0", "a-b 5 O",
    "-b 5 0", "a- 5 0", "/b 0", "a/ 0", "a1-b 5 0", "a-b1 5 0", "1-2 5 0", "a-b five 0", "a-b 5 x", "a-b x 0",
    "a-b 05 0", "a-b 005 0", "a-b 5 00", "a-b 5 01", "a/b 00", "a/b 01", "a-b 0 0", "a-b 00 0", "a-b 1001 0", "a-b 999999 0",
    "a-b 1000000 0", "a-b 5 1000000", "a/b 1000000", "a-b -5 0", "a-b +5 0", "a-b 5 -1", "a/b -1", "a-b 5.0 0", "a/b 0.0",
    "b-a 5 0", "b/a 0", "a-a 5 0", "a/a 0", "abcdefghi-b 5 0", "a-bcdefghij 5 0", "a/bcdefghij 0", "names", "names a b",
    "a|b 0",
    "a-b\t5 0", "a-b 5\t0", "a-b 5 0\r", "a/b 0\r", "a-b 5_0 0", "a-b 5 0,", "a-b 5 0;", "(5, 'a', 'b', 0)",
)

WRONG_NAMES = (
    " names", "names ", "names  a", "names a ", "names a  b", "Names a", "NAMES", "name a", "namesa", "names,a", "names a,b",
    "names a, b",
    "names: a", "names-a", "a b", "names b a", "names a a", "names a c b", "names ab a", "names A", "names a1", "names a B",
    "names abcdefghi", "names a | b", "names a-b", "names\ta", "names a\r", "a-b 5 0", "a/b 0", " ", "ames a", "nnames a",
    "names 1",
)


def row_told(refused, read, text):
    with refused.assertRaises(errors.NoText) as caught:
        read(text)
    return caught.exception.row


def wide_grounds(seed, many):
    """Grounds whose weights and numbers reach over all that can be written."""
    chance = random.Random(seed)
    found = []
    for _ in range(many):
        names = tuple(sorted({"".join(chance.choices("abz",
                                                     k=chance.choice((1, 2, 8)))) for _ in range(chance.randrange(7))}))
        pairs = list(itertools.combinations(names, 2))
        numbers = (0, 1, 2, 9, 10, 11, 99, 100, 101, 99999, 100000, 999999)
        reasons = {(chance.choice((1, 2, 9, 10, 11, 99, 100, 999, 1000)),) + chance.choice(pairs) + (chance.choice(numbers),)
                   for _ in range(chance.randrange(12)) if pairs}
        bars = {chance.choice(pairs) + (chance.choice(numbers),) for _ in range(chance.randrange(8)) if pairs}
        found.append((names, put_in_order(reasons), tuple(sorted(bars))))
    return found


class ShowGroundTest(unittest.TestCase):
    def test_shown(self):
        for ground, text in WRITTEN:
            self.assertEqual(show_ground(ground), text)

    def test_read_back(self):
        for ground, text in WRITTEN:
            told = read_ground(text)
            self.assertEqual(told, ground)
            self.assertIs(type(told), tuple)
            self.assertTrue(all(type(part) is tuple for part in told))
            self.assertTrue(all(type(thing) is tuple for part in told[1:] for thing in part))

    def test_drawn_grounds(self):
        for ground in some_grounds(141, 300) + wide_grounds(142, 300) + [ring(30), chain(30)]:
            self.assertTrue(is_ground(ground))
            text = show_ground(ground)
            self.assertEqual(read_ground(text), ground)
            self.assertEqual(show_ground(read_ground(text)), text)
            self.assertEqual(ground_by_signs(text), ground)

    def test_numbers_read_are_whole_numbers(self):
        names, reasons, bars = read_ground("names a b\na-b 1 0\na-b 1 1\na/b 0\na/b 1")
        for number in [part for reason in reasons for part in reason[::3]] + [bar[2] for bar in bars]:
            self.assertIs(type(number), int)

    def test_the_most_reasons_and_bars(self):
        names = tuple(one + other for one in "abc" for other in "abcdefghij")
        pairs = list(itertools.combinations(names, 2))
        ground = (names, put_in_order((at % 1000 + 1,) + pair + (at,) for at, pair in enumerate(pairs[:165])),
                  tuple(sorted(pair + (0,) for pair in pairs[100:200])))
        self.assertEqual(read_ground(show_ground(ground)), ground)


class ReadGroundTest(unittest.TestCase):
    def test_the_empty_text(self):
        self.assertEqual(row_told(self, read_ground, ""), 0)

    def test_wrong_first_rows(self):
        for row in WRONG_NAMES:
            for rest in ("", "\na-b 5 0", "\n", "\nx"):
                self.assertEqual(row_told(self, read_ground, row + rest), 0, repr(row + rest))
            self.assertIsInstance(ground_by_signs(row), int, repr(row))

    def test_a_wrong_row_at_each_place(self):
        for right in (["names a b c", "b-c 7 0", "a-c 1 0"], ["names a b c", "b/c 7", "b/c 8"],
                      ["names a b c", "b-c 7 0", "b/c 0"]):
            self.assertTrue(is_ground(read_ground("\n".join(right))))
            for wrong in WRONG_ROWS:
                for at in (1, 2, 3):
                    text = "\n".join(right[:at] + [wrong] + right[at:])
                    self.assertEqual(row_told(self, read_ground, text), at, repr(text))

    def test_line_ends(self):
        for text, row in (("\n", 0), ("\nnames", 0), ("names\n", 1), ("names a b\n", 1), ("names a b\n\na-b 5 0", 1),
                          ("names a b\na-b 5 0\n", 2), ("names a b\na/b 0\n", 2), ("names a b\na/b 0\n\n", 2),
                          ("names a\nb", 1), ("names\na b", 1), ("names a b\na-b 5\n0", 1), ("names a b\na-b\n5 0", 1)):
            self.assertEqual(row_told(self, read_ground, text), row, repr(text))

    def test_rows_told_twice(self):
        for text, row in (("names a b\na-b 5 0\na-b 5 0", 2), ("names a b\na/b 0\na/b 0", 2),
                          ("names a b\na-b 5 0\na-b 4 0\na-b 5 0", 3), ("names a b\na/b 0\na/b 1\na/b 0", 3),
                          ("names a b\nnames a b", 1), ("names\nnames", 1), ("names a b\na-b 5 0\na-b 5 0\nx", 2)):
            self.assertEqual(row_told(self, read_ground, text), row, repr(text))

    def test_rows_out_of_order(self):
        rows = ["b-c 10 0", "a-b 9 2", "a-b 9 10", "a-c 9 0", "b-c 9 0", "a-b 1 0"]
        bars = ["a/b 2", "a/b 10", "a/c 0", "b/c 0"]
        for some in (rows, bars):
            self.assertTrue(is_ground(read_ground("\n".join(["names a b c"] + some))))
            for at in range(len(some) - 1):
                turned = some[:at] + [some[at + 1], some[at]] + some[at + 2:]
                self.assertEqual(row_told(self, read_ground, "\n".join(["names a b c"] + turned)), at + 2, turned)
            for one, other in itertools.combinations(some, 2):
                self.assertEqual(row_told(self, read_ground, "\n".join(["names a b c", other, one])), 2)

    def test_a_reason_behind_a_bar(self):
        for text, row in (("names a b\na/b 0\na-b 5 0", 2), ("names a b\na-b 5 0\na/b 0\na-b 4 0", 3),
                          ("names a b\na/b 0\na-b 5 0\na/b 1", 2), ("names a b c\nb/c 0\na-b 5 0", 2)):
            self.assertEqual(row_told(self, read_ground, text), row, repr(text))

    def test_names_that_are_not_among_the_names(self):
        for text, row in (("names\na-b 5 0", 1), ("names\na/b 0", 1), ("names a\na-b 5 0", 1), ("names b\na-b 5 0", 1),
                          ("names a\na/b 0", 1), ("names b\na/b 0", 1), ("names a b\na-b 5 0\na-c 4 0", 2),
                          ("names a bc\na-b 5 0", 1), ("names a bc\nbc-c 5 0", 1), ("names a b\na/b 0\nb/c 0", 2),
                          ("names a b\na-c 5 0\na-b 5 0\nx", 1)):
            self.assertEqual(row_told(self, read_ground, text), row, repr(text))

    def test_one_sign_spoilt_at_each_place(self):
        text = "names a ab b\na-ab 100 0\nab-b 20 1\na/b 0\na/b 10"
        self.assertTrue(is_ground(read_ground(text)))
        for at in range(len(text) + 1):
            for sign in " ,-/|\nAz019~":
                for spoiled in (text[:at] + text[at + 1:], text[:at] + sign + text[at:], text[:at] + sign + text[at + 1:]):
                    self.hold(spoiled)

    def test_some_signs_spoilt(self):
        chance = random.Random(143)
        told = {"ground": 0, 0: 0, 1: 0, 2: 0, 3: 0, 4: 0}
        grounds = some_grounds(144, 100) + wide_grounds(145, 100)
        for many in (1, 2, 3):
            for ground in grounds:
                for _ in range(10):
                    word = self.hold(spoilt(chance, show_ground(ground), many))
                    told[word] = told.get(word, 0) + 1
        self.assertEqual(sum(told.values()), 6000)
        self.assertGreater(min(told[word] for word in ("ground", 0, 1, 2, 3, 4)), 50, told)

    def test_rows_put_elsewhere(self):
        chance = random.Random(146)
        for ground in some_grounds(147, 300):
            rows = show_ground(ground).split("\n")
            for _ in range(3):
                row = rows.pop(chance.randrange(len(rows)))
                rows[chance.randrange(len(rows) + 1):0] = [row] * chance.choice((1, 1, 2))
                self.hold("\n".join(rows))

    def hold(self, text):
        """Holds a reading against the one sign by sign, and tells the row, or "ground"."""
        expected = ground_by_signs(text)
        if isinstance(expected, int):
            self.assertEqual(row_told(self, read_ground, text), expected, repr(text))
            return expected
        self.assertEqual(read_ground(text), expected, repr(text))
        self.assertEqual(show_ground(expected), text)
        return "ground"

    def test_what_is_no_text(self):
        for thing in ODD_THINGS + [((), (), ()), ["names"], ("names",), b"names", WRITTEN[-1][0]]:
            self.assertEqual(row_told(self, read_ground, thing), 0)


class JoiningTextTest(unittest.TestCase):
    def test_shown_and_read_back(self):
        for sets, text in WRITTEN_JOININGS:
            self.assertEqual(show_joining(sets), text)
            told = read_joining(text)
            self.assertEqual(told, sets)
            self.assertIs(type(told), list)
            self.assertTrue(all(type(own) is tuple for own in told))

    def test_every_joining_of_five_names(self):
        for sets in joinings(["a", "ab", "b", "c", "ca"]):
            self.assertEqual(read_joining(show_joining(sets)), sets)
            self.assertEqual(joining_by_signs(show_joining(sets)), sets)

    def test_drawn_joinings(self):
        chance = random.Random(151)
        for most in (1, 2, 5, 17):
            for _ in range(30):
                sets = some_joining(chance, ["n" + name for name in "abcdefghijklmnopq"], most)
                self.assertEqual(read_joining(show_joining(sets)), sets)

    def test_parts_of_grounds(self):
        for ground in some_grounds(152, 100):
            self.assertEqual(read_joining(show_joining(parts_of(ground))), parts_of(ground))

    def test_wrong_texts(self):
        for text in (" ", "  ", "|", " | ", " |", "| ", "a  b", " a", "a ", "a | b ", " a | b", "a|b", "a |b", "a| b",
                     "a  | b", "a |  b", "a | ", " | a", "a |", "| a", "a |  | b", "a | | b", "a || b", "b | a",
                     "a | c | b", "a c | ab | aa", "b a", "a c b", "a b | c b", "a a", "a | a", "a b | b", "a b | a",
                     "a b | b c", "a c | b c", "A", "a B", "a | B", "a1", "1", "a, b", "a,b", "a-b", "a/b", "a\n", "\n",
                     "a\nb", "a | b\n", "\na", "abcdefghi", "a | abcdefghi", "a\tb", "names a", "[('a',)]", "a&b"):
            self.assertIsNone(joining_by_signs(text), repr(text))
            self.assertEqual(row_told(self, read_joining, text), 0, repr(text))

    def test_some_signs_spoilt(self):
        chance = random.Random(153)
        told = {True: 0, False: 0}
        for _ in range(1000):
            sets = some_joining(chance, sorted(chance.sample(["a", "ab", "b", "ba", "c", "d", "e"], 5)), 4)
            text = spoilt(chance, show_joining(sets), chance.choice((1, 2, 3)))
            expected = joining_by_signs(text)
            told[expected is None] += 1
            if expected is None:
                self.assertEqual(row_told(self, read_joining, text), 0, repr(text))
            else:
                self.assertEqual(read_joining(text), expected, repr(text))
        self.assertGreater(min(told.values()), 50, told)

    def test_what_is_no_text(self):
        for thing in ODD_THINGS + [[("a",)], (("a",),), ["a"], ("a",), b"a"]:
            self.assertEqual(row_told(self, read_joining, thing), 0)


class FolkTextTest(unittest.TestCase):
    RULES = (("same", "mail", 50), ("begin", "mail", 2, 20), ("never", "born"))

    def test_the_book_and_the_ground_of_folk(self):
        chance = random.Random(154)
        for _ in range(100):
            folk, later = Folk(self.RULES), Folk(self.RULES)
            names = chance.sample(["a", "ab", "b", "c", "d"], 4)
            for name in names:
                words = tuple((field, chance.choice(("ab", "abc", "b"))) for field in ("born",
                                                                                       "mail") if chance.random() < 0.7)
                folk.put((name, words))
            for one, other in itertools.combinations(names, 2):
                deed = chance.choice(("tell", "bar", None, None))
                if deed:
                    getattr(folk, deed)(one, other, *([7] if deed == "tell" else []))
            folk.drop(chance.choice(names))
            self.assertEqual(read_ground(show_ground(folk.ground())), folk.ground())
            self.assertEqual(read_book(show_book(folk.book())), folk.book())
            # What is read from the texts alone tells the same as what stands: told reasons and bars have the number 100.
            for row in read_book(show_book(folk.book())):
                later.put(row)
            names, reasons, bars = read_ground(show_ground(folk.ground()))
            for weight, one, other, number in reasons:
                if number == 100:
                    later.tell(one, other, weight)
            for one, other, number in bars:
                if number == 100:
                    later.bar(one, other)
            self.assertEqual((later.book(), later.ground()), (folk.book(), folk.ground()))


class NoTextTest(unittest.TestCase):
    def test_its_place_among_the_refusals(self):
        for read in (read_ground, read_joining):
            with self.assertRaises(errors.FolkError) as caught:
                read(None)
            self.assertIs(type(caught.exception), errors.NoText)
            self.assertIsInstance(caught.exception, ValueError)
            for other in (errors.NoName, errors.NoReason, errors.NoUndo, errors.NoRoom, errors.NoStep, errors.NoRow):
                self.assertNotIsInstance(caught.exception, other)


if __name__ == "__main__":
    unittest.main()

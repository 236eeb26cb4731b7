import unittest

from anything import ODD_THINGS
from onefolk.booktexts import read_book, read_row, show_book, show_row
from onefolk.errors import NoText
from onefolk.rows import is_book

WRITTEN_ROWS = (
    (("ann", ()), "ann:"),
    (("a", (("b", "1"),)), "a: b 1"),
    (("ben", (("born", "1970"), ("mail", "ben7"))), "ben: born 1970, mail ben7"),
    (("abcdefgh", (("a", "abcdefghijkl"), ("abcdefgh", "012345678901"), ("b", "x"))),
     "abcdefgh: a abcdefghijkl, abcdefgh 012345678901, b x"),
    (("x", tuple((field, "9") for field in "abcdefghijkl")),
     "x: a 9, b 9, c 9, d 9, e 9, f 9, g 9, h 9, i 9, j 9, k 9, l 9"),
)

WRONG_ROWS = (
    "", " ", ":", ": ", ": a b", "ann", "ann ", "ann :", " ann:", "ann: ", "ann:  ", "ann::", "ann:,", "ann: ,",
    "ann:a b", "ann:  a b", "ann: a b ", "ann: a b,", "ann: a b, ", "ann: a b,c d", "ann: a b,  c d", "ann: a b , c d",
    "ann: a  b", "ann: a b c", "ann: a", "ann: a, c d", "ann: a b, c", "ann: a b,, c d", "ann: , a b", "ann: a:b",
    "ann: a b; c d", "ann; a b", "ann: a b. c d", "ann: a,b", "ann a b", "ann: a: b", "ann: a b c d", "ann:\ta b",
    "ann:\n", "ann: a b\n", "\nann:", "ann:\na b", "ann: a b,\nc d", "ann: a\nb", "ann:\r", "ann:\nben:",
    "ann: c d, a b", "ann: a b, a b", "ann: a b, a c", "ann: ab x, a x",
    "abcdefghi:", "ann: abcdefghi x", "ann: a abcdefghijklm", "Ann:", "ann1:", "ann: A b", "ann: a1 b", "ann: a B",
    "ann: a b-c", "ann: a ~", "an n:", "(ann, ())",
)


def row_told(refused, read, text):
    with refused.assertRaises(NoText) as caught:
        read(text)
    return caught.exception.row


class RowTextTest(unittest.TestCase):
    def test_shown(self):
        for row, text in WRITTEN_ROWS:
            self.assertEqual(show_row(row), text)

    def test_read_back(self):
        for row, text in WRITTEN_ROWS:
            self.assertEqual(read_row(text), row)
            self.assertEqual(show_row(read_row(text)), text)

    def test_wrong_texts(self):
        for text in WRONG_ROWS:
            self.assertEqual(row_told(self, read_row, text), 0, repr(text))

    def test_what_is_no_text(self):
        for thing in ODD_THINGS + [("ann", ()), ["ann:"], ("ann:",), b"ann:"]:
            self.assertEqual(row_told(self, read_row, thing), 0)


class BookTextTest(unittest.TestCase):
    def test_the_empty_book(self):
        self.assertEqual(show_book(()), "")
        self.assertEqual(read_book(""), ())

    def test_shown_and_read_back(self):
        book = tuple(row for row, text in WRITTEN_ROWS)
        text = "\n".join(text for row, text in WRITTEN_ROWS)
        self.assertEqual(show_book(book), text)
        self.assertEqual(read_book(text), book)
        self.assertEqual(show_book(book[::-1]), "\n".join(text.split("\n")[::-1]))
        self.assertEqual(read_book(show_book(book[::-1])), book[::-1])

    def test_a_book_of_one_row(self):
        for row, text in WRITTEN_ROWS:
            self.assertEqual(show_book((row,)), text)
            self.assertEqual(read_book(text), (row,))

    def test_a_book_of_forty_rows(self):
        book = tuple((one + other, (("mail", one + "1"),)) for one in "hgfedcba" for other in "abcde")
        self.assertIs(is_book(read_book(show_book(book))), True)
        self.assertEqual(read_book(show_book(book)), book)

    def test_a_wrong_row_at_each_place(self):
        right = ["x: b 1", "y:", "z: a 2, b 3"]
        for wrong in WRONG_ROWS:
            if "\n" in wrong:
                continue
            for at in range(4):
                text = "\n".join(right[:at] + [wrong] + right[at:])
                self.assertEqual(row_told(self, read_book, text), at, repr(text))

    def test_line_ends(self):
        for text, row in (
            ("\n", 0), ("\n\n", 0), ("\nann:", 0), ("ann:\n", 1), ("ann:\nben:\n", 2), ("ann:\n\nben:", 1),
            ("ann:\n\n", 1), ("ann:\r\nben:", 0), ("ann:\rben:", 0), ("ann:\n ben:", 1), ("ann: a b,\nben:", 0),
            ("ann: a\nb", 0),
        ):
            self.assertEqual(row_told(self, read_book, text), row, repr(text))

    def test_a_name_told_twice(self):
        for text, row in (
            ("ann:\nann:", 1), ("ann:\nben:\nann: a b", 2), ("ann:\nben:\nben:\nann:", 2),
            ("ann:\nben:\nann:\nBen:", 2), ("ann:\nBen:\nann:", 1),
        ):
            self.assertEqual(row_told(self, read_book, text), row, repr(text))

    def test_what_is_no_text(self):
        for thing in ODD_THINGS + [("ann",), ["ann:", "ben:"], b"ann:", (("ann", ()),)]:
            self.assertEqual(row_told(self, read_book, thing), 0)


if __name__ == "__main__":
    unittest.main()

import copy
import unittest

from anything import ODD_THINGS
from onefolk.errors import NoName
from onefolk.rows import book_without, books_together, is_book, is_name, is_row, is_word, word_of

ANN = ("ann", (("born", "1970"), ("mail", "ann7")))
BEN = ("ben", ())
CAT = ("cat", (("town", "x"),))
DAN = ("dan", (("born", "1970"),))
BOOK = (ANN, BEN, CAT)


class NameTest(unittest.TestCase):
    def test_names(self):
        for name in ("a", "z", "az", "m", "abcdefgh", "zzzzzzzz"):
            self.assertIs(is_name(name), True, name)

    def test_wrong_length(self):
        for name in ("", "abcdefghi", "a" * 100):
            self.assertIs(is_name(name), False, name)

    def test_wrong_signs(self):
        for sign in ("A", "Z", "0", "9", " ", "\n", "\t", "`", "{", "_", "-", ":", ",", "\u00e4", "\u00df", "\u0430"):
            for name in (sign, sign + "a", "a" + sign, "a" + sign + "a"):
                self.assertIs(is_name(name), False, repr(name))

    def test_other_kinds(self):
        for thing in ODD_THINGS + [["a"], ("a",), {"a": "a"}, b"a"]:
            self.assertIs(is_name(thing), False)


class WordTest(unittest.TestCase):
    def row(self, word):
        return ("ann", (("mail", word),))

    def test_words(self):
        for word in ("a", "0", "9", "z", "abcdefghijkl", "012345678901", "2026", "a1b2", "1a"):
            self.assertIs(is_word(word), True, word)
            self.assertIs(is_row(self.row(word)), True, word)

    def test_wrong_words(self):
        for word in ("", "abcdefghijklm", "0123456789012", "A", "aB", "a b", " a", "a ", "a\n", "\n", "a-b", "a.b",
                     "`", "{", "/", ":", "\u0661", "\u00b2", "\u00e4"):
            self.assertIs(is_word(word), False, repr(word))
            self.assertIs(is_row(self.row(word)), False, repr(word))

    def test_other_kinds(self):
        for thing in ODD_THINGS:
            self.assertIs(is_word(thing), False)
            self.assertIs(is_row(self.row(thing)), False)


class RowTest(unittest.TestCase):
    def test_rows(self):
        for row in (ANN, BEN, CAT, ("a", ()), ("abcdefgh", (("a", "1"), ("ab", "1"), ("b", "1")))):
            self.assertIs(is_row(row), True, row)

    def test_a_row_of_twelve_fields(self):
        self.assertIs(is_row(("ann", tuple((field, "1") for field in "abcdefghijkl"))), True)

    def test_wrong_names(self):
        for name in ("", "abcdefghi", "Ann", "a1", None, ["a"], 1):
            self.assertIs(is_row((name, ())), False, name)

    def test_wrong_fields(self):
        for field in ("", "abcdefghi", "Born", "b1", None, ["a"], 1, True):
            self.assertIs(is_row(("ann", ((field, "x"),))), False, field)

    def test_fields_that_do_not_rise(self):
        self.assertIs(is_row(("ann", (("mail", "x"), ("born", "y")))), False)
        self.assertIs(is_row(("ann", (("ab", "x"), ("a", "y")))), False)
        self.assertIs(is_row(("ann", (("a", "x"), ("c", "x"), ("b", "x")))), False)

    def test_a_field_twice(self):
        self.assertIs(is_row(("ann", (("mail", "x"), ("mail", "x")))), False)
        self.assertIs(is_row(("ann", (("mail", "x"), ("mail", "y")))), False)

    def test_lists_for_tuples(self):
        self.assertIs(is_row(["ann", (("mail", "x"),)]), False)
        self.assertIs(is_row(("ann", [("mail", "x")])), False)
        self.assertIs(is_row(("ann", (["mail", "x"],))), False)
        self.assertIs(is_row(("ann", (("mail", ["x"]),))), False)
        self.assertIs(is_row(("ann", [])), False)
        self.assertIs(is_row(("ann", {})), False)

    def test_wrong_number_of_parts(self):
        for row in ((), ("ann",), ("ann", (), ()), ("ann", (("mail",),)), ("ann", (("mail", "x", "y"),)), ("ann", ((),)),
                    ("ann", ("ab",)), ("ann", "ab"), ("ann", "")):
            self.assertIs(is_row(row), False, row)

    def test_other_kinds(self):
        for thing in ODD_THINGS + ["ann", "ab"]:
            self.assertIs(is_row(thing), False)
            self.assertIs(is_row(("ann", (thing,))), False)

    def test_word_of(self):
        self.assertEqual(word_of(ANN, "born"), "1970")
        self.assertEqual(word_of(ANN, "mail"), "ann7")
        self.assertIsNone(word_of(ANN, "town"))
        self.assertIsNone(word_of(ANN, "bor"))
        self.assertIsNone(word_of(ANN, "ann"))
        self.assertIsNone(word_of(BEN, "born"))


class BookTest(unittest.TestCase):
    def test_books(self):
        for book in ((), (ANN,), BOOK, (CAT, BEN, ANN), (("b", ()), ("a", ()), ("ab", ()))):
            self.assertIs(is_book(book), True, book)

    def test_a_name_twice(self):
        self.assertIs(is_book((ANN, BEN, ("ann", ()))), False)
        self.assertIs(is_book((ANN, ANN)), False)

    def test_wrong_books(self):
        for book in ([], [ANN], list(BOOK), (ANN, None), (None, ANN), (list(ANN),), ANN, (("Ann", ()),), "", {},
                     (ANN, (BEN,)), ((),)):
            self.assertIs(is_book(book), False, book)

    def test_other_kinds(self):
        for thing in ODD_THINGS:
            self.assertIs(is_book(thing), False)
            self.assertIs(is_book((thing,)), False)
            self.assertIs(is_book((ANN, thing)), False)


class BooksTogetherTest(unittest.TestCase):
    def test_one_behind_the_other(self):
        self.assertEqual(books_together((CAT, ANN), (DAN, BEN)), (CAT, ANN, DAN, BEN))

    def test_empty_ones(self):
        self.assertEqual(books_together((), BOOK), BOOK)
        self.assertEqual(books_together(BOOK, ()), BOOK)
        self.assertEqual(books_together((), ()), ())

    def test_shared_names(self):
        for book, other, name in (
            (BOOK, (DAN, CAT, ANN), "cat"),
            (BOOK, (("ann", ()),), "ann"),
            ((ANN, BEN), (DAN, BEN, ANN), "ben"),
            (BOOK, BOOK, "ann"),
        ):
            with self.assertRaises(NoName) as caught:
                books_together(book, other)
            self.assertEqual(caught.exception.name, name)
        self.assertEqual(books_together(BOOK, (DAN,)), BOOK + (DAN,))

    def test_what_is_told_is_a_book(self):
        self.assertIs(is_book(books_together(BOOK, (DAN,))), True)


class BookWithoutTest(unittest.TestCase):
    def test_first_middle_last(self):
        self.assertEqual(book_without(BOOK, "ann"), (BEN, CAT))
        self.assertEqual(book_without(BOOK, "ben"), (ANN, CAT))
        self.assertEqual(book_without(BOOK, "cat"), (ANN, BEN))
        self.assertEqual(book_without((ANN,), "ann"), ())

    def test_names_that_no_row_has(self):
        for book in ((), BOOK):
            for name in ("dan", "an", "annn", "born", "", "Ann", "ann ", "x" * 9):
                with self.assertRaises(NoName) as caught:
                    book_without(book, name)
                self.assertEqual(caught.exception.name, name)

    def test_things_that_are_no_names(self):
        for thing in ODD_THINGS + [["ann"], {"ann": 1}, ("ann",), ANN, list(ANN), b"ann"]:
            before = copy.copy(thing) if isinstance(thing, (list, dict)) else thing
            with self.assertRaises(NoName) as caught:
                book_without(BOOK, thing)
            self.assertIs(caught.exception.name, thing)
            if isinstance(thing, (list, dict)):
                self.assertEqual(thing, before)
        self.assertEqual(book_without(BOOK, "ann"), (BEN, CAT))


if __name__ == "__main__":
    unittest.main()

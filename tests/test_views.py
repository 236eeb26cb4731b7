import copy
import random
import unittest

from onefolk.errors import NoName
from onefolk.views import view_of, views_of

HOWS = ("first", "last", "most", "longest", "least", "greatest")
BOOK = (
    ("dan", (("born", "10"), ("mail", "zz"))),
    ("ann", (("born", "9"), ("town", "ulm"))),
    ("cat", (("born", "10"), ("mail", "ann7"), ("town", "bonn"))),
    ("ben", (("born", "1971"), ("mail", "aa77"), ("town", "bonn"))),
    ("eva", ()),
)
ALL = ("ann", "ben", "cat", "dan", "eva")


def slow_word(pairs, how):
    """The word of (NAME, WORD) pairs, by rising names, as [18] says it."""
    words = [word for name, word in pairs]
    if how == "first":
        return words[0]
    if how == "last":
        return words[-1]
    if how == "most":
        many = max(words.count(word) for word in words)
        return next(word for word in words if words.count(word) == many)
    if how == "longest":
        long = max(len(word) for word in words)
        return sorted(word for word in words if len(word) == long)[0]
    return sorted(words)[0 if how == "least" else -1]


class ViewTest(unittest.TestCase):
    def see(self, how, names=ALL, field="born"):
        told = view_of(BOOK, ((field, how),), names)
        self.assertEqual(len(told), 1)
        self.assertEqual(told[0][0], field)
        return told[0][1:]

    def test_first(self):
        self.assertEqual(self.see("first"), ("9", ("ann",)))
        self.assertEqual(self.see("first", ALL[1:]), ("1971", ("ben",)))
        self.assertEqual(self.see("first", field="mail"), ("aa77", ("ben",)))

    def test_last(self):
        self.assertEqual(self.see("last"), ("10", ("cat", "dan")))
        self.assertEqual(self.see("last", field="town"), ("bonn", ("ben", "cat")))

    def test_most(self):
        self.assertEqual(self.see("most"), ("10", ("cat", "dan")))
        self.assertEqual(self.see("most", ("ann", "ben", "cat")), ("9", ("ann",)))
        self.assertEqual(self.see("most", ("ben", "cat")), ("1971", ("ben",)))
        self.assertEqual(self.see("most", field="town"), ("bonn", ("ben", "cat")))

    def test_most_of_several_that_of_the_first_row(self):
        book = tuple((name, (("f", word),)) for name, word in (("a", "z"), ("b", "y"), ("c", "x"), ("d", "x"), ("e", "y")))
        self.assertEqual(view_of(book, (("f", "most"),), ("a", "b", "c", "d", "e")), [("f", "y", ("b", "e"))])
        self.assertEqual(view_of(book[::-1], (("f", "most"),), ("a", "b", "c", "d", "e")), [("f", "y", ("b", "e"))])

    def test_longest(self):
        self.assertEqual(self.see("longest"), ("1971", ("ben",)))
        self.assertEqual(self.see("longest", ("ann", "cat", "dan")), ("10", ("cat", "dan")))
        # Two of four signs: the least, though it stands behind neither by name nor by the book.
        self.assertEqual(self.see("longest", field="mail"), ("aa77", ("ben",)))
        self.assertEqual(self.see("longest", ("cat", "dan"), field="mail"), ("ann7", ("cat",)))

    def test_longest_of_several_the_least(self):
        book = (("a", (("f", "bb"),)), ("b", (("f", "ab"),)), ("c", (("f", "zzz1"),)), ("d", (("f", "b123"),)), ("e", (("f", "a"),)))
        self.assertEqual(view_of(book, (("f", "longest"),), ("a", "b", "c", "d", "e")), [("f", "b123", ("d",))])
        self.assertEqual(view_of(book, (("f", "longest"),), ("a", "b", "e")), [("f", "ab", ("b",))])

    def test_least_and_greatest_as_texts(self):
        self.assertEqual(self.see("least"), ("10", ("cat", "dan")))
        self.assertEqual(self.see("greatest"), ("9", ("ann",)))
        self.assertEqual(self.see("least", ("ann", "ben")), ("1971", ("ben",)))
        self.assertEqual(self.see("greatest", field="mail"), ("zz", ("dan",)))

    def test_rows_of_the_set_alone(self):
        for how in HOWS:
            self.assertEqual(self.see(how, ("dan",)), ("10", ("dan",)))
            self.assertEqual(self.see(how, ("dan", "eva")), ("10", ("dan",)))

    def test_the_views_order_and_fields_that_no_row_has(self):
        view = (("town", "least"), ("none", "first"), ("born", "greatest"), ("mail", "last"))
        self.assertEqual(view_of(BOOK, view, ALL),
                         [("town", "bonn", ("ben", "cat")), ("born", "9", ("ann",)), ("mail", "zz", ("dan",))])
        self.assertEqual(view_of(BOOK, view, ("dan", "eva")), [("born", "10", ("dan",)), ("mail", "zz", ("dan",))])
        self.assertEqual(view_of(BOOK, view, ("eva",)), [])
        self.assertEqual(view_of(BOOK, (), ALL), [])

    def test_no_names(self):
        self.assertEqual(view_of(BOOK, (("born", "first"),), ()), [])
        self.assertEqual(view_of((), (("born", "first"),), ()), [])

    def test_some_books(self):
        chance = random.Random(81)
        for _ in range(300):
            names = chance.sample("abcdefgh", chance.randrange(1, 8))
            book = tuple((name, tuple((field, chance.choice(["a", "b", "ab", "ba", "9", "10", "100"]))
                                      for field in ("f", "g", "h") if chance.random() < 0.7)) for name in names)
            some = tuple(sorted(chance.sample(names, chance.randrange(len(names) + 1))))
            view = tuple((field, chance.choice(HOWS)) for field in chance.sample(["f", "g", "h", "i"], chance.randrange(5)))
            expected = []
            for field, how in view:
                pairs = [(name, dict(dict(book)[name])[field]) for name in some if field in dict(dict(book)[name])]
                if pairs:
                    word = slow_word(pairs, how)
                    expected.append((field, word, tuple(name for name, own in pairs if own == word)))
            self.assertEqual(view_of(book, view, some), expected)

    def test_the_first_name_that_has_no_row_is_refused(self):
        for names, name in ((("ann", "bob", "zoe"), "bob"), (("aaa", "ann"), "aaa"), (("zoe",), "zoe"), (("ann", "x", "y"), "x")):
            for view in ((("born", "first"),), ()):
                with self.assertRaises(NoName) as caught:
                    view_of(BOOK, view, names)
                self.assertEqual(caught.exception.name, name)
        with self.assertRaises(NoName):
            view_of((), (), ("ann",))

    def test_what_is_told_is_the_askers_own(self):
        view = tuple((field, "first") for field in ("born", "mail"))
        kept = copy.deepcopy(view_of(BOOK, view, ALL))
        told = view_of(BOOK, view, ALL)
        self.assertIs(type(told), list)
        told.clear()
        self.assertEqual(view_of(BOOK, view, ALL), kept)


class ViewsTest(unittest.TestCase):
    VIEW = (("town", "most"), ("born", "last"))

    def test_set_by_set(self):
        sets = [("ann", "cat"), ("ben", "dan"), ("eva",)]
        self.assertEqual(views_of(BOOK, self.VIEW, sets), [
            [("town", "ulm", ("ann",)), ("born", "10", ("cat",))],
            [("town", "bonn", ("ben",)), ("born", "10", ("dan",))],
            [],
        ])
        self.assertEqual(views_of(BOOK, self.VIEW, sets), [view_of(BOOK, self.VIEW, names) for names in sets])

    def test_no_sets(self):
        self.assertEqual(views_of(BOOK, self.VIEW, []), [])
        self.assertEqual(views_of((), (), []), [])

    def test_the_first_name_that_has_no_row_is_refused(self):
        with self.assertRaises(NoName) as caught:
            views_of(BOOK, self.VIEW, [("ann", "zoe"), ("bob",)])
        self.assertEqual(caught.exception.name, "zoe")

    def test_what_is_told_is_the_askers_own(self):
        sets = [("ann", "cat"), ("ben", "dan")]
        kept = copy.deepcopy(views_of(BOOK, self.VIEW, sets))
        told = views_of(BOOK, self.VIEW, sets)
        told[0].clear()
        told.pop()
        self.assertEqual(views_of(BOOK, self.VIEW, sets), kept)
        self.assertEqual(sets, [("ann", "cat"), ("ben", "dan")])


if __name__ == "__main__":
    unittest.main()

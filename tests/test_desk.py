import itertools
import random
import unittest

from anything import ODD_THINGS
from onefolk import errors
from onefolk.best import best_of
from onefolk.booktexts import read_book, show_book, show_row
from onefolk.cases import cases_of
from onefolk.checker import holds
from onefolk.desk import Desk
from onefolk.folk import Folk
from onefolk.grounds import ground_of
from onefolk.groundtexts import read_ground, show_ground, show_joining
from onefolk.holding import hangs_on, why_one
from onefolk.joining import fate_of, joining_of
from onefolk.parts import parts_of

RULES = (("same", "mail", 50), ("begin", "mail", 2, 20), ("never", "born"), ("both", "mail", "town", 70))
NAMES = ("ann", "ben", "cat", "dan")
ROWS = ("ann: born 1970, mail ann7", "ben: mail ann7", "cat: born 1971, mail an")


def desk_of(*rows, rules=RULES):
    desk = Desk(rules)
    for row in rows:
        assert desk.say(row) == "ok", row
    return desk


def put_all(*more):
    return desk_of(*["put " + row for row in ROWS], *more)


def questions_about(names, numbers=(0, 1, 3, 100)):
    """Every question that can be asked of these names."""
    rows = ["book", "ground", "parts", "joining", "best", "paper best", "paper joining"]
    rows += [f"why {one} {other}" for one in names for other in names]
    for one, other in itertools.combinations(sorted(names), 2):
        for number in numbers:
            for weight in {0: (50,), 1: (20,), 3: (70,), 100: (1, 50)}[number]:
                rows += [f"{word} {one}-{other} {weight} {number}" for word in ("hangs", "fate")]
    return rows


def told(desk, row):
    """The answer, or the refusal's class and name."""
    try:
        return desk.say(row)
    except errors.FolkError as error:
        return (type(error), getattr(error, "name", None))


def answers(desk, names=NAMES):
    return [told(desk, row) for row in questions_about(names)]


class DeedsTest(unittest.TestCase):
    def test_nobody(self):
        desk = Desk(RULES)
        for row, answer in (("book", ""), ("ground", "names"), ("parts", "none"), ("joining", "none"), ("best", "none"),
                            ("paper best", "holds"), ("paper joining", "holds")):
            self.assertEqual(desk.say(row), answer)

    def test_what_each_deed_leaves(self):
        desk = Desk(RULES)
        for row, book, ground in (
            ("put ben: mail ann7", "ben: mail ann7", "names ben"),
            ("put ann: born 1970, mail ann7", "ben: mail ann7\nann: born 1970, mail ann7",
             "names ann ben\nann-ben 50 0\nann-ben 20 1"),
            ("put cat:", "ben: mail ann7\nann: born 1970, mail ann7\ncat:", "names ann ben cat\nann-ben 50 0\nann-ben 20 1"),
            ("tell cat ben 1000", None, "names ann ben cat\nben-cat 1000 100\nann-ben 50 0\nann-ben 20 1"),
            ("tell ben dan 7", None, "names ann ben cat\nben-cat 1000 100\nann-ben 50 0\nann-ben 20 1"),
            ("bar cat ann", None, "names ann ben cat\nben-cat 1000 100\nann-ben 50 0\nann-ben 20 1\nann/cat 100"),
            ("strike ann-ben 20 1", None, "names ann ben cat\nben-cat 1000 100\nann-ben 50 0\nann/cat 100"),
            ("strike ann-zoe 1 999999", None, "names ann ben cat\nben-cat 1000 100\nann-ben 50 0\nann/cat 100"),
            ("drop ben", "ann: born 1970, mail ann7\ncat:", "names ann cat\nann/cat 100"),
            ("undo", "ben: mail ann7\nann: born 1970, mail ann7\ncat:",
             "names ann ben cat\nben-cat 1000 100\nann-ben 50 0\nann/cat 100"),
            ("unstrike ann-ben 20 1", None, "names ann ben cat\nben-cat 1000 100\nann-ben 50 0\nann-ben 20 1\nann/cat 100"),
            ("untell ben cat 1000", None, "names ann ben cat\nann-ben 50 0\nann-ben 20 1\nann/cat 100"),
            ("unbar ann cat", None, "names ann ben cat\nann-ben 50 0\nann-ben 20 1"),
            ("undo", None, "names ann ben cat\nann-ben 50 0\nann-ben 20 1\nann/cat 100"),
            ("put dan: born 1970", "ben: mail ann7\nann: born 1970, mail ann7\ncat:\ndan: born 1970",
             "names ann ben cat dan\nann-ben 50 0\nann-ben 20 1\nben-dan 7 100\nann/cat 100"),
        ):
            ahead = desk.say("book")
            self.assertEqual(desk.say(row), "ok", row)
            self.assertEqual(desk.say("book"), ahead if book is None else book, row)
            self.assertEqual(desk.say("ground"), ground, row)

    def test_back_to_the_beginning(self):
        desk = put_all("tell ann ben 5", "bar ann ben", "strike ann-ben 50 0", "untell ann ben 5", "drop ann")
        for _ in range(8):
            self.assertEqual(desk.say("undo"), "ok")
        self.assertEqual(answers(desk), answers(Desk(RULES)))
        self.assertEqual(told(desk, "undo"), (errors.NoUndo, None))

    def test_names_that_are_words_of_the_desk(self):
        desk = desk_of("put put:", "put undo: best parts", "put none:", "tell put undo 5", "bar none put")
        self.assertEqual(desk.say("book"), "put:\nundo: best parts\nnone:")
        self.assertEqual(desk.say("parts"), "none | put undo")
        self.assertEqual(desk.say("why put undo"), "put-undo 5 100")
        self.assertEqual(desk.say("drop put"), "ok")
        self.assertEqual(desk.say("drop undo"), "ok")
        self.assertEqual(desk.say("parts"), "none")

    def test_a_row_of_twelve_fields(self):
        row = "x: " + ", ".join(f"{field} 9" for field in "abcdefghijkl")
        self.assertEqual(desk_of("put " + row).say("book"), row)


class QuestionsTest(unittest.TestCase):
    def setUp(self):
        self.desk = put_all()

    def says(self, row, answer, desk=None):
        for _ in range(2):
            self.assertEqual((desk or self.desk).say(row), answer, row)

    def test_book_and_ground(self):
        self.says("book", "\n".join(ROWS))
        self.says("ground", "names ann ben cat\nann-ben 50 0\nann-ben 20 1\nann-cat 20 1\nben-cat 20 1\nann/cat 2")

    def test_parts_and_joinings(self):
        self.says("parts", "ann ben cat")
        self.says("joining", "ann ben | cat")
        self.says("best", "ann ben | cat")
        self.desk.say("put dan:")
        self.says("parts", "ann ben cat | dan")
        self.says("joining", "ann ben | cat | dan")
        self.says("best", "ann ben | cat | dan")

    def test_the_best_one_is_another(self):
        desk = desk_of("put a:", "put b:", "put c:", "put d:", "tell b c 9", "tell a b 8", "tell c d 7", "bar a c",
                       "bar b d")
        self.says("joining", "a | b c | d", desk)
        self.says("best", "a b | c d", desk)
        self.says("parts", "a b c d", desk)
        self.says("paper best", "holds", desk)
        self.says("paper joining", "holds", desk)

    def test_why(self):
        self.says("why ann ben", "ann-ben 50 0")
        self.says("why cat ann", "ann-cat 20 1")
        self.says("why ann ann", "same")
        self.desk.say("strike ann-cat 20 1")
        self.says("why ann cat", "ann-ben 50 0, ben-cat 20 1")
        self.says("why cat ann", "ben-cat 20 1, ann-ben 50 0")
        self.desk.say("strike ben-cat 20 1")
        self.says("why ann cat", "apart")
        self.says("why cat ben", "apart")
        self.says("why cat cat", "same")

    def test_hangs(self):
        self.says("hangs ann-ben 50 0", "stays")
        desk = desk_of("put a:", "put b:", "put c:", "put d:", "tell b c 9", "tell a c 8", "tell b d 7")
        self.says("hangs b-c 9 100", "b d | a c", desk)
        self.says("hangs a-c 8 100", "a | b c d", desk)
        self.says("hangs b-d 7 100", "a b c | d", desk)

    def test_fate(self):
        self.says("fate ann-ben 50 0", "kept")
        self.says("fate ann-ben 20 1", "beside")
        self.says("fate ann-cat 20 1", "barred ann/cat 2")
        self.says("fate ben-cat 20 1", "barred ann/cat 2")
        self.desk.say("bar cat ben")
        self.desk.say("strike ann-cat 20 1")
        self.says("fate ben-cat 20 1", "barred ann/cat 2")
        self.desk.say("put dan: mail an")
        self.desk.say("bar dan cat")
        self.says("fate cat-dan 50 0", "barred cat/dan 100")

    def test_papers(self):
        self.says("paper best", "holds")
        self.says("paper joining", "holds")

    def test_a_checker_that_takes_nothing(self):
        import onefolk.desk as module
        kept = module.holds
        seen = []
        try:
            module.holds = lambda claim, paper: seen.append((claim, paper))
            self.says("paper best", "no")
            self.says("paper joining", "no")
        finally:
            module.holds = kept
        ground = read_ground(self.desk.say("ground"))
        self.assertEqual([claim for claim, paper in seen], [("best", ground, (("ann", "ben"), ("cat",)))] * 2
                         + [("joining", ground, (("ann", "ben"), ("cat",)))] * 2)
        self.assertTrue(all(holds(claim, paper) for claim, paper in seen))

    def test_questions_change_nothing(self):
        ahead = answers(self.desk)
        self.assertEqual(answers(self.desk), ahead)
        for row in ROWS[::-1]:
            self.desk.say("undo")
        self.assertEqual(told(self.desk, "undo"), (errors.NoUndo, None))


class RefusalsTest(unittest.TestCase):
    def setUp(self):
        self.desk = put_all("tell ann ben 5", "bar ben cat", "strike ann-ben 20 1", "tell dan eve 5", "bar dan eve",
                            "strike a-b 1 0")
        self.ahead = answers(self.desk)

    def tearDown(self):
        self.assertEqual(answers(self.desk), self.ahead)
        # The last deeds are still the same ones.
        for row in ("strike a-b 1 0", "bar dan eve", "tell dan eve 5", "strike ann-ben 20 1", "bar ben cat",
                    "tell ann ben 5"):
            self.assertEqual(told(self.desk, row), (errors.NoReason, None))
            self.assertEqual(self.desk.say("undo"), "ok")
            self.assertEqual(self.desk.say(row), "ok")
            self.assertEqual(self.desk.say("undo"), "ok")
        self.assertEqual(answers(self.desk), answers(put_all()))

    def refused(self, row, sort=errors.NoRow):
        with self.assertRaises(errors.FolkError) as caught:
            self.desk.say(row)
        # Other things aren't shown: some are too deep and wide for that.
        self.assertIs(type(caught.exception), sort, row if isinstance(row, str) else "")
        return caught.exception

    def refused_name(self, row, name):
        self.assertEqual(self.refused(row, errors.NoName).name, name, row)

    GOOD = ("drop ann", "tell ann cat 7", "untell ann ben 5", "bar ann ben", "unbar ben cat", "undo", "parts", "joining",
            "best", "why ann ben", "book", "ground", "paper best", "paper joining", "put dan:", "put dan: born 7, mail x",
            "strike ann-cat 20 1", "unstrike ann-ben 20 1", "hangs ann-ben 50 0", "fate ann-ben 50 0")

    def test_the_good_rows_are_good(self):
        for row in self.GOOD:
            desk = put_all("tell ann ben 5", "bar ben cat", "strike ann-ben 20 1")
            self.assertIsInstance(desk.say(row), str, row)

    def test_other_words(self):
        for row in ("", " ", "\n", "x", "puts dan:", "Undo", "UNDO", "undo!", "part", "bests", "drops ann", "folk", "rules",
                    "paper", "paper x", "papers best", "paper Best", "paper parts", "paper why", "none", "ok", "ann",
                    "undo undo", "say undo", "redo", "put_dan:", "undo,", "0", "view ann", "holds", "tell", "why",
                    "become", "split"):
            self.refused(row)

    def test_blanks_and_line_ends(self):
        for row in self.GOOD:
            for wrong in (" " + row, row + " ", "\n" + row, row + "\n", row + "\nundo", "undo\n" + row,
                          row.replace(" ", "  ", 1) + "  ", row + "\t", "\t" + row, row + ".", row + ","):
                self.refused(wrong)
            for at, sign in enumerate(row):
                if sign == " ":
                    self.refused(row[:at] + " " + row[at:])
                    self.refused(row[:at] + "\n" + row[at + 1:])
                    self.refused(row[:at] + "\t" + row[at + 1:])

    def test_too_few_and_too_many_words(self):
        for row in self.GOOD:
            words = row.split(" ")
            for many in range(1, len(words)):
                if words[0] != "put" and words[:many] != ["undo"]:
                    self.refused(" ".join(words[:many]))
                    self.refused(" ".join(words[:many] + [""]))
            for more in ("ann", "7", "x", "ann ben", ":"):
                # With a field and a word behind it a row without words is a right one.
                if (row, more) != ("put dan:", "ann ben"):
                    self.refused(row + " " + more)

    def test_large_letters_and_other_names(self):
        for name in ("Ann", "ANN", "ann1", "1", "abcdefghi", "an-n", "a/b", "ann,", "ann:", ":", "-", ""):
            for row in (f"drop {name}", f"tell {name} ben 7", f"tell ben {name} 7", f"untell {name} ben 5",
                        f"untell ben {name} 5", f"bar {name} ben", f"bar ben {name}", f"unbar {name} ben",
                        f"unbar ben {name}", f"why {name} ben", f"why ben {name}", f"why {name} {name}",
                        f"tell {name} {name} 0"):
                self.refused(row)

    def test_numbers_that_are_none(self):
        for number in ("", "05", "00", "000005", "1000000", "0000005", "9999999", "-5", "+5", "5.0", "five", "5,", "1_0",
                       "0x5", "V", "ann"):
            for row in (f"tell ann cat {number}", f"untell ann ben {number}", f"tell ann ann {number}",
                        f"tell x x {number}"):
                self.refused(row)
            for word in ("strike", "unstrike", "hangs", "fate"):
                self.refused(f"{word} ann-ben {number} 0")
                self.refused(f"{word} ann-ben 50 {number}")

    def test_reasons_not_written_so(self):
        for reason in ("", "ann-ben", "ann-ben 50", "ann-ben 50 0 0", "ben-ann 50 0", "ann-ann 50 0", "ann-ben 0 0",
                       "ann-ben 1001 0", "ann-ben 1000000 0", "ann-ben 50 1000000", "ann-ben 50 -1", "ann-ben 50  0",
                       "ann-ben  50 0", "ann -ben 50 0", "ann- ben 50 0", "ann ben 50 0", "ann/ben 50 0", "ann/ben 50",
                       "ann/cat 2", "Ann-ben 50 0", "ann-Ben 50 0", "abcdefghi-ben 50 0", "ann-bcdefghij 50 0",
                       "ann-ben-cat 50 0", "-ben 50 0", "ann- 50 0", "ann-ben 50, 0", "ann-ben, 50 0", "50 ann ben 0",
                       "(50, 'ann', 'ben', 0)", "ann-ben 50 0\n", "ann-ben\n50 0"):
            for word in ("strike", "unstrike", "hangs", "fate"):
                self.refused(f"{word} {reason}")

    def test_rows_of_a_book_not_written_so(self):
        for row in ("", " ", "dan", "dan :", ":", "Dan:", "dan1:", "abcdefghi:", "dan: ", "dan:mail x", "dan:  mail x",
                    "dan: mail", "dan: mail x,", "dan: mail x, ", "dan: mail x,town y", "dan: mail x y", "dan: mail  x",
                    "dan: town y, mail x", "dan: mail x, mail y", "dan: Mail x", "dan: mail X", "dan: mail abcdefghijklm",
                    "dan: abcdefghi x", "dan: mail x\n", "dan:\neve:", "\ndan:", "ann:\n", "ann", "ann: ", "ann: b"):
            self.refused(f"put {row}")

    def test_what_is_no_text(self):
        for thing in ODD_THINGS + [["undo"], ("undo",), {"undo": 1}, b"undo", b"parts", ("put", ROWS[0]), (), 5]:
            self.refused(thing)

    def test_names_that_stand_or_do_not(self):
        for name in ("ann", "ben", "cat"):
            self.refused_name(f"put {name}:", name)
            self.refused_name(f"put {name}: mail x", name)
        for name in ("dan", "eve", "an", "anna", "x"):
            self.refused_name(f"drop {name}", name)
            self.refused_name(f"why {name} ann", name)
            self.refused_name(f"why ann {name}", name)
            self.refused_name(f"why {name} {name}", name)
            self.refused_name(f"why {name} zoe", name)
        self.refused_name("why zoe dan", "zoe")

    def test_two_alike_names(self):
        for name in ("ann", "dan"):
            for row in (f"tell {name} {name} 7", f"tell {name} {name} 0", f"untell {name} {name} 5", f"bar {name} {name}",
                        f"unbar {name} {name}"):
                self.refused_name(row, name)

    def test_weights_that_are_none(self):
        for weight in (0, 1001, 999999):
            for one, other in (("ann", "ben"), ("ben", "ann"), ("x", "y")):
                self.refused(f"tell {one} {other} {weight}", errors.NoReason)
                self.refused(f"untell {one} {other} {weight}", errors.NoReason)

    def test_what_is_so_already_or_is_not(self):
        for row in ("tell ann ben 5", "tell ben ann 5", "tell eve dan 5", "untell ann ben 6", "untell ann cat 5",
                    "untell ann ben 50", "bar ben cat", "bar cat ben", "bar eve dan", "unbar ann cat", "unbar ann ben",
                    "strike ann-ben 20 1", "strike a-b 1 0", "unstrike ann-ben 50 0", "unstrike a-b 1 1"):
            self.refused(row, errors.NoReason)

    def test_reasons_that_are_not_of_the_ground(self):
        for reason in ("ann-ben 20 1", "ann-ben 50 1", "ann-ben 51 0", "ann-dan 50 0", "x-y 1 0", "dan-eve 5 100", "a-b 1 0",
                       "ann-cat 20 100"):
            for word in ("hangs", "fate"):
                self.refused(f"{word} {reason}", errors.NoReason)

    def test_no_undo(self):
        desk = Desk(RULES)
        self.assertEqual(told(desk, "undo"), (errors.NoUndo, None))
        desk.say("put ann:")
        desk.say("undo")
        for _ in range(2):
            self.assertEqual(told(desk, "undo"), (errors.NoUndo, None))

    def test_no_room(self):
        rows = [f"put {name}:" for name in "abcdefg"]
        reasons = [f"tell {one} {other} 5" for one, other in itertools.combinations("abcdefg", 2)]
        desk = desk_of(*rows, *reasons[:13], "bar a b")
        ahead = [desk.say(row) for row in ("book", "ground", "parts", "joining", "paper joining")]
        for _ in range(2):
            for row in ("best", "paper best"):
                self.assertEqual(told(desk, row), (errors.NoRoom, None))
        self.assertEqual([desk.say(row) for row in ("book", "ground", "parts", "joining", "paper joining")], ahead)
        desk.say("untell a b 5")
        self.assertIsInstance(desk.say("best"), str)
        self.assertEqual(desk.say("paper best"), "holds")


def some_say(chance):
    """A row of words for a deed, most of them such as can be done now or later."""
    word = chance.choice(["put", "put", "put", "put", "drop", "tell", "untell", "bar", "unbar", "strike", "unstrike",
                          "undo"])
    one, other = chance.choice(NAMES), chance.choice(NAMES)
    if word == "put":
        fields = [f"{field} {chance.choice(['a', 'ab', 'abc', 'ba'])}" for field in ("born", "mail",
                                                                                     "town") if chance.random() < 0.6]
        return f"put {one}:{' ' if fields else ''}" + ", ".join(fields)
    if word == "drop":
        return f"drop {one}"
    if word in ("tell", "untell"):
        return f"{word} {one} {other} {chance.choice([1, 50])}"
    if word in ("bar", "unbar"):
        return f"{word} {one} {other}"
    if word == "undo":
        return "undo"
    one, other = sorted(chance.sample(NAMES, 2))
    return f"{word} {one}-{other} {chance.choice(['50 0', '20 1', '70 3', '50 100', '1 100'])}"


def do_by_hand(folk, row):
    """Does with folk themselves what a row tells the desk to do."""
    word, *words = row.split(" ")
    if word == "put":
        folk.put(read_book(row[4:])[0])
    elif word in ("strike", "unstrike"):
        getattr(folk, word)((int(words[1]), *words[0].split("-"), int(words[2])))
    else:
        getattr(folk, word)(*[int(part) if part.isdigit() else part for part in words])


def answer_by_hand(folk, row):
    """What the functions themselves tell to a question."""
    ground = folk.ground()
    word, *words = row.split(" ")
    if row in ("book", "ground"):
        return show_book(folk.book()) if row == "book" else show_ground(ground)
    if row in ("parts", "joining", "best"):
        sets = {"parts": parts_of, "joining": lambda g: joining_of(g)[0], "best": lambda g: best_of(g)[0]}[row](ground)
        return show_joining(sets) or "none"
    if row == "paper best":
        return "holds" if holds(("best", ground, tuple(best_of(ground)[0])), cases_of(ground)) else "no"
    if row == "paper joining":
        sets, kept, barred = (tuple(part) for part in joining_of(ground))
        return "holds" if holds(("joining", ground, sets), (kept, barred)) else "no"
    if word == "why":
        way = why_one(ground, *words)
        if way is None:
            return "apart"
        return ", ".join(f"{one}-{other} {weight} {number}" for weight, one, other, number in way) or "same"
    reason = (int(words[1]), *words[0].split("-"), int(words[2]))
    if word == "hangs":
        answer = hangs_on(ground, reason)
        return "stays" if answer == ("stays",) else " ".join(answer[1]) + " | " + " ".join(answer[2])
    answer = fate_of(ground, reason)
    return "barred {}/{} {}".format(*answer[1]) if answer[0] == "barred" else answer[0]


def refusal_or(call, *things):
    try:
        return call(*things)
    except errors.FolkError as error:
        return (type(error), getattr(error, "name", None))


class AgainstFunctionsTest(unittest.TestCase):
    def test_some_rows_of_deeds(self):
        chance = random.Random(191)
        seen = set()
        for _ in range(200):
            desk, folk = Desk(RULES), Folk(RULES)
            for _ in range(chance.randrange(4, 16)):
                row = some_say(chance)
                expected = refusal_or(do_by_hand, folk, row)
                self.assertEqual(told(desk, row), "ok" if expected is None else expected, row)
                for question in chance.sample(questions_about(NAMES), 8):
                    expected = refusal_or(answer_by_hand, folk, question)
                    self.assertEqual(told(desk, question), expected, question)
            for question in questions_about(NAMES):
                expected = refusal_or(answer_by_hand, folk, question)
                self.assertEqual(told(desk, question), expected, question)
                seen.add((question.split(" ")[0], expected if isinstance(expected, tuple) else expected.split(" ")[0]))
        for answer in (("why", "same"), ("why", "apart"), ("hangs", "stays"), ("fate", "kept"), ("fate", "beside"),
                       ("fate", "barred"), ("parts", "none"), ("paper", "holds"), ("why", (errors.NoName, "ann")),
                       ("hangs", (errors.NoReason, None)), ("fate", (errors.NoReason, None))):
            self.assertIn(answer, seen)
        self.assertNotIn(("paper", "no"), seen)

    def test_the_texts_read_back_make_a_desk_that_answers_the_same(self):
        chance = random.Random(192)
        for _ in range(200):
            desk = Desk(RULES)
            for _ in range(chance.randrange(4, 20)):
                told(desk, some_say(chance))
            book, (names, reasons, bars) = read_book(desk.say("book")), read_ground(desk.say("ground"))
            rows = ["put " + show_row(row) for row in book]
            rows += [f"tell {one} {other} {weight}" for weight, one, other, number in reasons if number == 100]
            rows += [f"bar {one} {other}" for one, other, number in bars if number == 100]
            rows += [f"strike {one}-{other} {weight} {number}" for weight, one, other, number in ground_of(book, RULES)[1]
                     if (weight, one, other, number) not in reasons]
            self.assertEqual(answers(desk_of(*rows)), answers(desk))

    def test_a_deed_and_its_undo(self):
        chance = random.Random(193)
        done = 0
        for _ in range(60):
            desk = Desk(RULES)
            for _ in range(15):
                ahead = answers(desk)
                row = some_say(chance)
                if row != "undo" and told(desk, row) == "ok":
                    done += 1
                    behind = answers(desk)
                    self.assertEqual(desk.say("undo"), "ok")
                    self.assertEqual(answers(desk), ahead)
                    self.assertEqual(desk.say(row), "ok")
                    self.assertEqual(answers(desk), behind)
        self.assertGreater(done, 300)

    def test_two_desks_do_not_meet(self):
        one, other = Desk(RULES), Desk(RULES)
        empty = answers(other)
        for row in ["put " + row for row in ROWS] + ["tell ann ben 5", "bar ann cat", "strike ann-ben 50 0"]:
            self.assertEqual(one.say(row), "ok")
            self.assertEqual(answers(other), empty)
        self.assertEqual(told(other, "undo"), (errors.NoUndo, None))
        ahead = answers(one)
        other.say("put ann:")
        other.say("strike ann-ben 50 0")
        other.say("undo")
        self.assertEqual(answers(one), ahead)

    def test_other_rules(self):
        self.assertEqual(desk_of("put a: m x", "put b: m x", rules=()).say("ground"), "names a b")
        self.assertEqual(desk_of("put a: m x", "put b: m x", rules=(("same", "m", 1000),)).say("ground"),
                         "names a b\na-b 1000 0")

    def test_the_order_of_deeds_is_nothing_but_to_the_book(self):
        chance = random.Random(194)
        rows = ["put " + row for row in ROWS] + ["tell ann ben 5", "bar ben cat", "strike ann-ben 20 1", "tell ann dan 5"]
        expected = answers(desk_of(*rows))[1:]
        for _ in range(30):
            chance.shuffle(rows)
            self.assertEqual(answers(desk_of(*rows))[1:], expected)


if __name__ == "__main__":
    unittest.main()

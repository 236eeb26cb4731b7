import unittest

from anything import ODD_THINGS
from onefolk.errors import NoText
from onefolk.rules import are_rules
from onefolk.ruletexts import read_rules, show_rules

WRITTEN = (
    (("same", "mail", 5), "same mail 5"),
    (("same", "a", 1), "same a 1"),
    (("same", "abcdefgh", 1000), "same abcdefgh 1000"),
    (("begin", "name", 3, 70), "begin name 3 70"),
    (("begin", "name", 1, 1), "begin name 1 1"),
    (("begin", "name", 12, 1000), "begin name 12 1000"),
    (("both", "town", "born", 90), "both town born 90"),
    (("both", "born", "town", 100), "both born town 100"),
    (("never", "born"), "never born"),
    (("never", "never"), "never never"),
)

WRONG = (
    "", " ", "same", "same ", "same mail", "same mail ", "same  mail 5", "same mail  5", " same mail 5", "same mail 5 ",
    "same mail 5 5", "same mail five", "same 5 mail", "same mail, 5", "same: mail 5", "same mail 5,", "same\tmail 5",
    "Same mail 5", "SAME mail 5", "same Mail 5", "same mail1 5", "same abcdefghi 5", "sam mail 5", "5 mail 5", "mail",
    "same mail 0", "same mail 00", "same mail 05", "same mail 0005", "same mail 000005", "same mail 1001",
    "same mail 999999", "same mail 1000000", "same mail 0000005", "same mail 10000000000000000000000000",
    "same mail -5", "same mail +5", "same mail 5.0", "same mail 1_0", "same mail 0x5", "same mail 5\r",
    "same mail \u0665", "same mail \u00b2",
    "begin name 3", "begin name", "begin name 0 5", "begin name 13 5", "begin name 03 5", "begin name 3 0",
    "begin name 3 1001", "begin name 3 05", "begin 3 name 5", "begin name name 5", "begin name 3 5 5", "begin name  3 5",
    "begin name 1000003 5", "begin name 3 five",
    "both town 5", "both town town 5", "both town born", "both town born 0", "both town born 1001", "both town born 5 5",
    "both town, born 5", "both 3 born 5", "both town 3 5", "both town born 05",
    "never", "never ", "never born 5", "never Born", "never born ", " never born", "never 5", "never born town",
    "always born", "same mail 5 never born", "same mail 5;never born", "('never', 'born')",
)


def row_told(refused, text):
    with refused.assertRaises(NoText) as caught:
        read_rules(text)
    return caught.exception.row


class RuleTextTest(unittest.TestCase):
    def test_each_rule_shown_and_read_back(self):
        for rule, text in WRITTEN:
            self.assertEqual(show_rules((rule,)), text)
            self.assertEqual(read_rules(text), (rule,))

    def test_no_rules(self):
        self.assertEqual(show_rules(()), "")
        self.assertEqual(read_rules(""), ())

    def test_several_rules(self):
        rules = tuple(rule for rule, text in WRITTEN)
        text = "\n".join(text for rule, text in WRITTEN)
        self.assertEqual(show_rules(rules), text)
        self.assertEqual(read_rules(text), rules)
        self.assertIs(are_rules(read_rules(text)), True)

    def test_numbers_read_are_whole_numbers(self):
        for number in read_rules("begin name 1 1")[0][2:]:
            self.assertIs(type(number), int)

    def test_alike_rules_stand_side_by_side(self):
        for rule, text in WRITTEN:
            self.assertEqual(show_rules((rule, rule)), text + "\n" + text)
            self.assertEqual(read_rules(text + "\n" + text), (rule, rule))

    def test_a_wrong_row_at_each_place(self):
        right = ["never born", "same mail 5", "same mail 5"]
        for wrong in WRONG:
            if wrong:
                self.assertEqual(row_told(self, wrong), 0, repr(wrong))
            for at in range(4):
                text = "\n".join(right[:at] + [wrong] + right[at:])
                self.assertEqual(row_told(self, text), at, repr(text))

    def test_the_first_of_several_wrong_rows(self):
        self.assertEqual(row_told(self, "never born\nsame mail 0\nnever"), 1)
        self.assertEqual(row_told(self, "never born\nnever born\n\n"), 2)

    def test_line_ends(self):
        for text, row in (("\n", 0), ("\nnever born", 0), ("never born\n", 1), ("never born\n\nnever born", 1),
                          ("never\nborn", 0), ("same mail\n5", 0), ("never born\r\nnever born", 0)):
            self.assertEqual(row_told(self, text), row, repr(text))

    def test_what_is_no_text(self):
        for thing in ODD_THINGS + [("never born",), ["never born"], b"never born", (("never", "born"),)]:
            self.assertEqual(row_told(self, thing), 0)


if __name__ == "__main__":
    unittest.main()

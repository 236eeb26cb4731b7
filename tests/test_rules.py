import unittest

from anything import ODD_THINGS
from onefolk.rules import are_rules, is_rule, tells

RULES = (("same", "mail", 5), ("begin", "name", 3, 7), ("both", "born", "town", 9), ("never", "born"))


class RuleTest(unittest.TestCase):
    def test_each_sort(self):
        for rule in RULES:
            self.assertIs(is_rule(rule), True, rule)

    def test_weights_at_their_limits(self):
        for weight, is_so in ((1, True), (2, True), (999, True), (1000, True), (0, False), (-1, False), (1001, False),
                              (10 ** 20, False), (True, False), (False, False), ("1", False), (None, False)):
            self.assertIs(is_rule(("same", "mail", weight)), is_so, weight)
            self.assertIs(is_rule(("begin", "mail", 3, weight)), is_so, weight)
            self.assertIs(is_rule(("both", "mail", "name", weight)), is_so, weight)

    def test_signs_at_their_limits(self):
        for many, is_so in ((1, True), (2, True), (11, True), (12, True), (0, False), (-1, False), (13, False),
                            (10 ** 20, False), (True, False), (False, False), ("1", False), (None, False)):
            self.assertIs(is_rule(("begin", "mail", many, 5)), is_so, many)

    def test_fields_are_names(self):
        for field in ("a", "abcdefgh"):
            self.assertIs(is_rule(("same", field, 5)), True)
            self.assertIs(is_rule(("begin", field, 1, 5)), True)
            self.assertIs(is_rule(("both", field, "b", 5)), True)
            self.assertIs(is_rule(("both", "b", field, 5)), True)
            self.assertIs(is_rule(("never", field)), True)
        for field in ["", "abcdefghi", "Mail", "m1", "mail ", "mail\n"] + ODD_THINGS:
            self.assertIs(is_rule(("same", field, 5)), False)
            self.assertIs(is_rule(("begin", field, 1, 5)), False)
            self.assertIs(is_rule(("both", field, "b", 5)), False)
            self.assertIs(is_rule(("both", "b", field, 5)), False)
            self.assertIs(is_rule(("both", field, field, 5)), False)
            self.assertIs(is_rule(("never", field)), False)

    def test_both_with_fields_in_either_order_but_unlike(self):
        self.assertIs(is_rule(("both", "a", "b", 5)), True)
        self.assertIs(is_rule(("both", "b", "a", 5)), True)
        self.assertIs(is_rule(("both", "a", "a", 5)), False)

    def test_parts_too_many_and_too_few(self):
        for rule in RULES:
            for many in range(len(rule)):
                self.assertIs(is_rule(rule[:many]), False, rule[:many])
            for more in (1, "a", None):
                self.assertIs(is_rule(rule + (more,)), False, rule)

    def test_other_first_words(self):
        words = ["", "Same", "same ", "sam", "always", "never ", "nevers", b"same", ["same"], ("same",)]
        for word in words + ODD_THINGS:
            for rule in RULES:
                self.assertIs(is_rule((word,) + rule[1:]), False)
        self.assertIs(is_rule(("never", "mail", 5)), False)
        self.assertIs(is_rule(("same", "mail")), False)
        self.assertIs(is_rule(("begin", "mail", 5)), False)
        self.assertIs(is_rule(("begin", "mail", "born", 5)), False)
        self.assertIs(is_rule(("both", "mail", 3, 5)), False)

    def test_parts_in_another_order(self):
        self.assertIs(is_rule(("same", 5, "mail")), False)
        self.assertIs(is_rule(("begin", 3, "mail", 5)), False)
        self.assertIs(is_rule(("begin", "mail", 5, 13)), True)
        self.assertIs(is_rule(("begin", "mail", 13, 5)), False)

    def test_other_kinds(self):
        for thing in ODD_THINGS + ["same", "same mail 5", list(RULES[0]), dict(same="mail"), RULES]:
            self.assertIs(is_rule(thing), False)


class RulesTest(unittest.TestCase):
    def test_rules(self):
        for rules in ((), (RULES[0],), RULES, RULES[::-1], (RULES[0], RULES[0]), RULES + RULES[:3]):
            self.assertIs(are_rules(rules), True, rules)

    def test_wrong_rules(self):
        for rules in ([], list(RULES), RULES[0], RULES + (None,), (None,) + RULES, (list(RULES[0]),), "", {},
                      (RULES[0], ("same", "mail", 0)), (RULES,)):
            self.assertIs(are_rules(rules), False, rules)

    def test_other_kinds(self):
        for thing in ODD_THINGS:
            self.assertIs(are_rules(thing), False)
            self.assertIs(are_rules((thing,)), False)
            self.assertIs(are_rules(RULES + (thing,)), False)


def row(name, words):
    return (name, tuple(sorted(words.items())))


class TellsTest(unittest.TestCase):
    def told(self, rule, words, other_words):
        one, other = row("ann", words), row("ben", other_words)
        told = tells(rule, one, other)
        self.assertIn(told, (True, False))
        self.assertIsInstance(told, bool)
        self.assertIs(tells(rule, other, one), told)
        self.assertEqual((one, other), (row("ann", words), row("ben", other_words)))
        return told

    def test_same(self):
        rule = ("same", "mail", 5)
        self.assertTrue(self.told(rule, {"mail": "x1"}, {"mail": "x1"}))
        self.assertTrue(self.told(rule, {"mail": "x1", "born": "1"}, {"mail": "x1", "born": "2", "zip": "x"}))
        self.assertFalse(self.told(rule, {"mail": "x1"}, {"mail": "x2"}))
        self.assertFalse(self.told(rule, {"mail": "x"}, {"mail": "x1"}))
        self.assertFalse(self.told(rule, {"mail": "x"}, {}))
        self.assertFalse(self.told(rule, {"mail": "x"}, {"name": "x"}))
        self.assertFalse(self.told(rule, {}, {}))

    def test_begin(self):
        rule = ("begin", "name", 3, 5)
        self.assertTrue(self.told(rule, {"name": "abc"}, {"name": "abc"}))
        self.assertTrue(self.told(rule, {"name": "abc"}, {"name": "abcd"}))
        self.assertTrue(self.told(rule, {"name": "abcx"}, {"name": "abcyz"}))
        self.assertFalse(self.told(rule, {"name": "ab"}, {"name": "ab"}))
        self.assertFalse(self.told(rule, {"name": "ab"}, {"name": "abc"}))
        self.assertFalse(self.told(rule, {"name": "abd"}, {"name": "abc"}))
        self.assertFalse(self.told(rule, {"name": "xabc"}, {"name": "yabc"}))
        self.assertFalse(self.told(rule, {"name": "abc"}, {}))
        self.assertFalse(self.told(rule, {"name": "abc"}, {"mail": "abc"}))
        self.assertFalse(self.told(rule, {}, {}))

    def test_begin_at_its_limits(self):
        self.assertTrue(self.told(("begin", "name", 1, 5), {"name": "a"}, {"name": "ab"}))
        self.assertFalse(self.told(("begin", "name", 1, 5), {"name": "ba"}, {"name": "ab"}))
        whole = "abcdefghijkl"
        self.assertTrue(self.told(("begin", "name", 12, 5), {"name": whole}, {"name": whole}))
        self.assertFalse(self.told(("begin", "name", 12, 5), {"name": whole}, {"name": whole[:11] + "x"}))
        self.assertFalse(self.told(("begin", "name", 12, 5), {"name": whole[:11]}, {"name": whole[:11]}))

    def test_begin_is_not_weighed_for_its_signs(self):
        self.assertFalse(self.told(("begin", "name", 3, 1), {"name": "abc"}, {"name": "axx"}))
        self.assertTrue(self.told(("begin", "name", 1, 3), {"name": "abc"}, {"name": "axx"}))

    def test_both(self):
        rule = ("both", "town", "born", 5)
        self.assertTrue(self.told(rule, {"born": "1", "town": "x"}, {"born": "1", "town": "x"}))
        self.assertFalse(self.told(rule, {"born": "1", "town": "x"}, {"born": "2", "town": "x"}))
        self.assertFalse(self.told(rule, {"born": "1", "town": "x"}, {"born": "1", "town": "y"}))
        self.assertFalse(self.told(rule, {"born": "1", "town": "x"}, {"born": "2", "town": "y"}))
        self.assertFalse(self.told(rule, {"born": "1", "town": "x"}, {"born": "x", "town": "1"}))
        self.assertFalse(self.told(rule, {"born": "1", "town": "x"}, {"born": "1"}))
        self.assertFalse(self.told(rule, {"born": "1", "town": "x"}, {"town": "x"}))
        self.assertFalse(self.told(rule, {"born": "1"}, {"born": "1"}))
        self.assertFalse(self.told(rule, {"town": "x"}, {"town": "x"}))
        self.assertFalse(self.told(rule, {"town": "x"}, {"born": "x"}))
        self.assertFalse(self.told(rule, {}, {}))

    def test_never(self):
        rule = ("never", "born")
        self.assertTrue(self.told(rule, {"born": "1"}, {"born": "2"}))
        self.assertTrue(self.told(rule, {"born": "1"}, {"born": "12"}))
        self.assertFalse(self.told(rule, {"born": "1"}, {"born": "1"}))
        self.assertFalse(self.told(rule, {"born": "1"}, {}))
        self.assertFalse(self.told(rule, {"born": "1"}, {"town": "2"}))
        self.assertFalse(self.told(rule, {}, {}))


if __name__ == "__main__":
    unittest.main()

import random
import unittest

from goodness import barred_parts, kept_weight, large_part, most_weight, true_case
from graphs import chain, put_in_order, some_grounds
from onefolk.best import best_of
from onefolk.cases import cases_of

TRIANGLE = (("a", "b", "c"), ((5, "a", "b", 0), (4, "b", "c", 0)), (("a", "c", 0),))


def words_of(case):
    if case[0] != "cases":
        return [case[0]]
    return ["cases"] + words_of(case[2]) + words_of(case[3])


class CheckTest(unittest.TestCase):
    """That the tests' own check takes what [17] says, and nothing else."""

    PART = (TRIANGLE[0], list(TRIANGLE[1]), list(TRIANGLE[2]))
    WAY = TRIANGLE[1]

    def test_taken(self):
        first, second = self.WAY
        held_both = ("shut", self.WAY)
        for case in (("prices", ((self.WAY, 4),)), ("prices", ((self.WAY[::-1], 4),)),
                     ("prices", ((self.WAY, 1), (self.WAY, 3))),
                     ("cases", first, ("cases", second, held_both, ("prices", ())), ("prices", ()))):
            self.assertTrue(true_case(self.PART, 4, case), case)

    def test_not_taken(self):
        first, second = self.WAY
        for case in (("prices", ()), ("prices", ((self.WAY, 3),)), ("prices", ((self.WAY, 5),)), ("shut", self.WAY),
                     ("prices", ((self.WAY, 4), (self.WAY, 1))), ("prices", ((self.WAY[:1], 4),)), ("shut", ()),
                     ("prices", ((self.WAY + (second,), 4),)), ("prices", ((self.WAY, 4), (self.WAY, 0))),
                     ("cases", first, ("shut", self.WAY), ("prices", ())),
                     ("cases", first, ("cases", first, ("shut", self.WAY), ("prices", ())), ("prices", ())),
                     ("cases", second, ("prices", ((self.WAY, 4),)), ("prices", ((self.WAY, 4),)))):
            self.assertFalse(true_case(self.PART, 4, case), case)


class CasesTest(unittest.TestCase):
    def hold(self, ground):
        told = cases_of(ground)
        sets = best_of(ground)[0]
        parts = barred_parts(ground)
        self.assertIs(type(told), tuple)
        self.assertEqual(len(told), len(parts))
        for case, part in zip(told, parts):
            loss = sum(reason[0] for reason in part[1]) - kept_weight(part[1], sets)
            self.assertTrue(true_case(part, loss, case), (ground, case))
            self.assertFalse(true_case(part, loss + 1, case), (ground, case))
        return told

    def test_no_bars(self):
        self.assertEqual(cases_of(((), (), ())), ())
        self.assertEqual(cases_of(TRIANGLE[:2] + ((),)), ())
        self.assertEqual(cases_of(chain(30)), ())

    def test_a_bar_between_two_parts(self):
        self.assertEqual(cases_of((("a", "b", "c"), ((5, "a", "b", 0),), (("a", "c", 0),))), ())

    def test_one_way(self):
        self.assertEqual(self.hold(TRIANGLE), (("prices", ((TRIANGLE[1], 4),)),))

    def test_two_ways_of_one_bar(self):
        told = self.hold((("a", "b"), ((5, "a", "b", 0), (4, "a", "b", 1)), (("a", "b", 0),)))
        self.assertEqual(words_of(told[0]), ["prices"])

    def test_where_prices_alone_are_not_enough(self):
        # Three rows, each two of them barred, all with a reason to a fourth: whole prices alone come to 1.
        star = (("a", "b", "c", "d"), ((1, "a", "d", 0), (1, "b", "d", 0), (1, "c", "d", 0)),
                (("a", "b", 0), ("a", "c", 0), ("b", "c", 0)))
        self.assertEqual(best_of(star)[2], 2)
        told = self.hold(star)
        self.assertEqual(told[0][0], "cases")
        self.assertIn("prices", words_of(told[0]))

    def test_several_parts_in_their_order(self):
        raised = {"a": "d", "b": "e", "c": "f"}
        reasons = put_in_order(TRIANGLE[1] + tuple((w + 3, raised[a], raised[b], k) for w, a, b, k in TRIANGLE[1]))
        ground = (tuple("abcdefgh"), put_in_order(reasons + ((1, "g", "h", 0),)), (("a", "c", 0), ("b", "g", 0), ("d", "f", 0)))
        self.assertEqual(len(self.hold(ground)), 2)

    def test_some_grounds(self):
        words = []
        for ground in (some_grounds(71, 350) + some_grounds(72, 100, most_weight=1, most_reasons=12)
                       + some_grounds(73, 100, most_names=5, most_reasons=12, most_weight=1000)):
            for case in self.hold(ground):
                words.extend(words_of(case))
        self.assertGreater(min(words.count(word) for word in ("shut", "prices", "cases")), 10)

    def test_large_parts(self):
        chance = random.Random(74)
        for most in (1, 2, 5, 1000):
            for bars in (1, 3, 8, 28):
                for _ in range(5):
                    self.hold(large_part(chance, most_weight=most, bars=bars))

    def test_the_loss_is_the_least(self):
        for ground in some_grounds(75, 60):
            self.hold(ground)
            self.assertEqual(best_of(ground)[1], most_weight(ground))

    def test_told_again_the_same(self):
        chance = random.Random(76)
        ground = large_part(chance)
        self.assertEqual(cases_of(ground), cases_of(ground))


if __name__ == "__main__":
    unittest.main()

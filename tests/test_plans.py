import random
import unittest

from goodness import joinings
from onefolk.plans import least_plan, too_few
from worlds import least_depth, settles, some_worlds, true_table

APART = (("a",), ("b",))
ONE = (("a", "b"),)


def eight_worlds(chance):
    """Eight unlike worlds of eight names that all stand."""
    found = []
    while len(found) < 8:
        heads = [chance.randrange(3) for _ in range(8)]
        world = tuple(sorted(tuple(name for name, own in zip("abcdefgh", heads) if own == head) for head in set(heads)))
        if world not in found:
            found.append(world)
    return tuple(found)


class PlanTest(unittest.TestCase):
    def hold(self, worlds):
        told = least_plan(worlds)
        self.assertIs(type(told), tuple)
        depth, plan = told
        self.assertIs(type(depth), int)
        self.assertEqual(settles(plan, worlds, list(range(len(worlds)))), depth, (worlds, plan))
        return depth

    def test_one_world(self):
        for world in ((), APART, ONE):
            self.assertEqual(least_plan((world,)), (0, ("told", 0)))

    def test_two_worlds(self):
        self.assertEqual(least_plan((APART, ONE)), (1, ("ask", ("one", "a", "b"), ("told", 1), ("told", 0))))
        self.assertEqual(least_plan((ONE, APART)), (1, ("ask", ("one", "a", "b"), ("told", 0), ("told", 1))))
        self.assertEqual(least_plan(((), (("a",),))), (1, ("ask", ("stands", "a"), ("told", 1), ("told", 0))))

    def test_three_worlds(self):
        self.assertEqual(self.hold((APART, ONE, ())), 2)

    def test_worlds_that_need_one_ask_each(self):
        # Each of seven pairs stands as one in one world alone, so that an ask tells one world from the rest.
        pairs = [("a", name) for name in "bcdefgh"]
        worlds = [tuple((name,) for name in "abcdefgh")]
        for pair in pairs:
            worlds.append(tuple(sorted([pair] + [(name,) for name in "abcdefgh" if name not in pair])))
        self.assertEqual(self.hold(tuple(worlds)), 7)

    def test_eight_worlds_by_three_asks(self):
        worlds = tuple(tuple((name,) for bit, name in enumerate("abc") if number >> bit & 1) for number in range(8))
        self.assertEqual(self.hold(worlds), 3)

    def test_all_joinings_of_three_names(self):
        worlds = tuple(tuple(sets) for sets in joinings(["a", "b", "c"]))
        self.assertEqual(len(worlds), 5)
        self.assertEqual(self.hold(worlds), least_depth(worlds))

    def test_some_worlds(self):
        chance = random.Random(101)
        depths = []
        for _ in range(300):
            worlds = some_worlds(chance, most_worlds=6)
            depths.append(self.hold(worlds))
            self.assertEqual(depths[-1], least_depth(worlds))
        self.assertTrue({0, 1, 2, 3, 4} <= set(depths), set(depths))

    def test_eight_drawn_worlds(self):
        chance = random.Random(102)
        for _ in range(10):
            worlds = some_worlds(chance, most_worlds=12, most_names=3)[:8]
            self.assertEqual(self.hold(worlds), least_depth(worlds))

    def test_eight_worlds_of_eight_names(self):
        chance = random.Random(103)
        for _ in range(10):
            worlds = eight_worlds(chance)
            depth = self.hold(worlds)
            self.assertGreaterEqual(depth, 3)
            self.assertTrue(true_table(too_few(worlds, depth - 1), worlds, depth - 1))


class TableTest(unittest.TestCase):
    def hold(self, worlds, depth):
        for many in range(depth):
            table = too_few(worlds, many)
            self.assertTrue(true_table(table, worlds, many), (worlds, many, table))
            heads = [row[:2] for row in table]
            self.assertEqual(len(heads), len(set(heads)))
        for many in range(depth, depth + 3):
            self.assertIsNone(too_few(worlds, many))

    def test_one_world(self):
        self.hold(((),), 0)
        self.hold((APART,), 0)

    def test_no_asks_at_all(self):
        self.assertEqual(too_few((APART, ONE), 0), (((0, 1), 0, ()),))
        self.assertEqual(too_few((APART, ONE, ()), 0), (((0, 1, 2), 0, ()),))

    def test_one_ask_for_three_worlds(self):
        # Asks are a stands, b stands, a and b are one; the third world says no to all.
        self.assertEqual(too_few((APART, ONE, ()), 1), (((0, 1, 2), 1, (True, True, False)), ((0, 1), 0, ()), ((0, 2), 0, ())))

    def test_as_many_as_worlds_less_one_always_do(self):
        chance = random.Random(111)
        for _ in range(100):
            worlds = some_worlds(chance)
            self.assertIsNone(too_few(worlds, len(worlds) - 1))

    def test_some_worlds(self):
        chance = random.Random(112)
        for _ in range(200):
            worlds = some_worlds(chance, most_worlds=6)
            self.hold(worlds, least_depth(worlds))

    def test_eight_worlds_that_need_seven(self):
        worlds = tuple((("a",),) if at == 7 else (("a", "bcdefgh"[at]),) for at in range(8))
        depth = least_plan(worlds)[0]
        self.hold(worlds, depth)
        self.assertEqual(depth, 7)

    def test_told_again_the_same(self):
        worlds = some_worlds(random.Random(113), most_worlds=8)
        self.assertEqual(too_few(worlds, 1), too_few(worlds, 1))
        self.assertEqual(least_plan(worlds), least_plan(worlds))


class CheckTest(unittest.TestCase):
    """That the tests' own checks take what [20] and [21] say, and nothing else."""

    WORLDS = (APART, ONE, ())

    def test_plans(self):
        inner = ("ask", ("stands", "a"), ("told", 0), ("told", 2))
        self.assertEqual(settles(("ask", ("one", "a", "b"), ("told", 1), inner), self.WORLDS, [0, 1, 2]), 2)
        for plan in (("told", 0), inner, ("ask", ("one", "a", "b"), inner, ("told", 1)), ["told", 0],
                     ("ask", ("one", "b", "a"), ("told", 1), inner), ("ask", ("one", "a", "b"), ("told", 1), ("told", 0))):
            self.assertIsNone(settles(plan, self.WORLDS, [0, 1, 2]))

    def test_tables(self):
        table = too_few(self.WORLDS, 1)
        self.assertTrue(true_table(table, self.WORLDS, 1))
        self.assertTrue(true_table(table + (((0, 1), 0, ()),), self.WORLDS, 1))
        for wrong in (table[:2], table[1:], (), list(table), None, table + (((0,), 0, ()),), table + (((1, 0), 0, ()),)):
            self.assertFalse(true_table(wrong, self.WORLDS, 1))
        self.assertFalse(true_table(table, self.WORLDS, 2))


if __name__ == "__main__":
    unittest.main()

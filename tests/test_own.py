"""What is told is the asker's own, over the whole package."""

import copy
import unittest

from onefolk.asks import asks_of
from onefolk.best import best_of
from onefolk.grounds import in_order
from onefolk.groundtexts import read_joining
from onefolk.holding import holding_of, why_one
from onefolk.joining import fate_of, joining_of
from onefolk.moved import moved_between
from onefolk.parts import parts_of
from onefolk.steps import behind_step, groups_of, steps_between
from onefolk.views import view_of, views_of

GROUND = (("a", "b", "c", "d"), ((9, "a", "b", 0), (8, "b", "c", 0), (7, "c", "d", 0), (6, "a", "d", 1), (5, "a", "b", 1)),
          (("a", "c", 2),))
BOOK = (("a", (("born", "1"), ("mail", "x"))), ("b", (("born", "2"),)))
VIEW = (("born", "first"), ("mail", "last"))
ONE, OTHER = [("a", "b", "c"), ("d", "e")], [("a", "b"), ("c", "d", "e")]

# Every function that tells a list, or lists within a tuple, with something to ask it.
CALLS = [
    (in_order, list(GROUND[1][::-1])), (in_order, GROUND[1]), (parts_of, GROUND), (holding_of, GROUND),
    (why_one, GROUND, "a", "d"), (why_one, GROUND, "a", "a"), (joining_of, GROUND), (best_of, GROUND),
    *[(fate_of, GROUND, reason) for reason in GROUND[1] if fate_of(GROUND, reason) != ("kept",)],
    (view_of, BOOK, VIEW, ("a", "b")), (views_of, BOOK, VIEW, [("a", "b"), ("a",)]), (views_of, BOOK, VIEW, []),
    (asks_of, ((("a", "b"),), ())), (groups_of, ONE, OTHER), (steps_between, ONE, OTHER), (steps_between, ONE, ONE),
    (behind_step, ONE, ("join",) + tuple(ONE)), (behind_step, ONE, ("split", ("d",), ("e",))), (moved_between, ONE, OTHER),
    (read_joining, "a b | c"), (read_joining, ""), (groups_of, [], []), (moved_between, [], []), (parts_of, ((), (), ())),
]


def lists_within(thing):
    found = [thing] if isinstance(thing, list) else []
    if isinstance(thing, (list, tuple)):
        for part in thing:
            found.extend(lists_within(part))
    return found


def ruin(thing):
    """Changes every list within a thing, and tells how many there were."""
    lists = lists_within(thing)
    for each in lists:
        each.insert(0, "ruined")
        each.append(["ruined"])
        del each[1:2]
    return len(lists)


class OwnTest(unittest.TestCase):
    def test_what_is_told_changed_by_the_asker(self):
        for ask, *things in CALLS:
            first = ask(*things)
            kept = copy.deepcopy(first)
            for _ in range(2):
                told = ask(*things)
                self.assertEqual(told, kept, ask.__name__)
                self.assertGreater(ruin(told), 0, ask.__name__)
                self.assertNotEqual(told, kept, ask.__name__)
            # What was told ahead of that is as it was, too.
            self.assertEqual(first, kept, ask.__name__)
            self.assertEqual(ask(*things), kept, ask.__name__)

    def test_what_is_handed_in_is_not_changed(self):
        for ask, *things in CALLS:
            kept = copy.deepcopy(things)
            ask(*things)
            self.assertEqual(things, kept, ask.__name__)
            ruin(ask(*things))
            self.assertEqual(things, kept, ask.__name__)

    def test_what_was_handed_in_changed_behind_the_call(self):
        for ask, *things in CALLS:
            handed = copy.deepcopy(things)
            told = ask(*handed)
            kept = copy.deepcopy(told)
            for thing in handed:
                ruin(thing)
            self.assertEqual(told, kept, ask.__name__)
            self.assertEqual(ask(*things), kept, ask.__name__)


if __name__ == "__main__":
    unittest.main()

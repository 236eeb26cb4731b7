"""Folk: rows, told reasons and bars, and struck reasons that are kept, and each deed taken back."""

from onefolk.errors import NoName, NoReason, NoUndo
from onefolk.grounds import ground_of, in_order, is_reason
from onefolk.rows import book_without, books_together, is_name
from onefolk.rules import is_weight

# The number that told reasons and bars have in place of a rule's.
TOLD = 100


class Folk:
    """Rules, and what deeds have left standing beside them."""

    def __init__(self, rules):
        self.rules = rules
        self.rows = ()
        self.told = ()
        self.barred = ()
        self.struck = ()
        # What stood ahead of each deed: nothing in it can be changed, so undo brings back just that.
        self.past = []

    def put(self, row):
        """Puts a row behind the others."""
        self.become(books_together(self.rows, (row,)), self.told, self.barred, self.struck)

    def drop(self, name):
        """Drops the row of a name, which may be a thing of any kind."""
        self.become(book_without(self.rows, name), self.told, self.barred, self.struck)

    def tell(self, one, other, weight):
        """Tells a reason; all three may be things of any kind."""
        self.become(self.rows, with_one(self.told, told_reason(one, other, weight)), self.barred, self.struck)

    def untell(self, one, other, weight):
        """Takes a told reason away; all three may be things of any kind."""
        self.become(self.rows, without_one(self.told, told_reason(one, other, weight)), self.barred, self.struck)

    def bar(self, one, other):
        """Tells a bar; both may be things of any kind."""
        self.become(self.rows, self.told, with_one(self.barred, told_bar(one, other)), self.struck)

    def unbar(self, one, other):
        """Takes a told bar away; both may be things of any kind."""
        self.become(self.rows, self.told, without_one(self.barred, told_bar(one, other)), self.struck)

    def strike(self, reason):
        """Strikes a reason, which may be a thing of any kind."""
        refuse_other_things(reason)
        self.become(self.rows, self.told, self.barred, with_one(self.struck, reason))

    def unstrike(self, reason):
        """Takes a struck reason, which may be a thing of any kind, from the struck ones."""
        refuse_other_things(reason)
        self.become(self.rows, self.told, self.barred, without_one(self.struck, reason))

    def become(self, rows, told, barred, struck):
        """Does a deed that leaves these."""
        self.past.append((self.rows, self.told, self.barred, self.struck))
        self.rows, self.told, self.barred, self.struck = rows, told, barred, struck

    def undo(self):
        """Takes back the last deed that isn't taken back yet."""
        if not self.past:
            raise NoUndo("no deed is left")
        self.rows, self.told, self.barred, self.struck = self.past.pop()

    def book(self):
        """The rows, in the order in which they were put."""
        return self.rows

    def ground(self):
        """The ground of what stands."""
        names, reasons, bars = ground_of(self.rows, self.rules)
        told = [reason for reason in self.told if reason[1] in names and reason[2] in names]
        barred = [bar for bar in self.barred if bar[0] in names and bar[1] in names]
        left = [reason for reason in list(reasons) + told if reason not in self.struck]
        return (names, tuple(in_order(left)), tuple(sorted(list(bars) + barred)))


def told_reason(one, other, weight):
    """The told reason of two names in any order and a weight; refuses things of any kind that are none."""
    pair = pair_of(one, other)
    if not is_weight(weight):
        raise NoReason("this is no weight")
    return (weight,) + pair + (TOLD,)


def told_bar(one, other):
    """The told bar of two names in any order; refuses things of any kind that are none."""
    return pair_of(one, other) + (TOLD,)


def pair_of(one, other):
    """Two unlike names, the lesser one first; refuses things of any kind that are none."""
    if not is_name(one):
        raise NoName(one)
    if not is_name(other) or one == other:
        raise NoName(other)
    return (min(one, other), max(one, other))


def refuse_other_things(thing):
    """Refuses a thing of any kind that is no reason."""
    if not is_reason(thing):
        raise NoReason("this is no reason")


def with_one(things, thing):
    """The told, barred or struck things with one more."""
    if thing in things:
        raise NoReason("this stands already")
    return things + (thing,)


def without_one(things, thing):
    """The told, barred or struck things but one."""
    if thing not in things:
        raise NoReason("this doesn't stand")
    return tuple([other for other in things if other != thing])

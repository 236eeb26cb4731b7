"""The desk: folk kept by rows of words, each answered with a text."""

from onefolk.best import best_of
from onefolk.booktexts import show_book
from onefolk.cases import cases_of
from onefolk.checker import holds
from onefolk.deskwords import read_words
from onefolk.folk import Folk
from onefolk.groundtexts import show_bar, show_ground, show_joining, show_reason
from onefolk.holding import hangs_on, why_one
from onefolk.joining import fate_of, joining_of
from onefolk.parts import parts_of

def put(folk, things):
    """Puts a row."""
    folk.put(things[0])


def drop(folk, things):
    """Drops a name."""
    folk.drop(things[0])


def tell(folk, things):
    """Tells a reason."""
    folk.tell(things[0], things[1], things[2])


def untell(folk, things):
    """Takes a told reason away."""
    folk.untell(things[0], things[1], things[2])


def bar(folk, things):
    """Tells a bar."""
    folk.bar(things[0], things[1])


def unbar(folk, things):
    """Takes a told bar away."""
    folk.unbar(things[0], things[1])


def strike(folk, things):
    """Strikes a reason."""
    folk.strike(things[0])


def unstrike(folk, things):
    """Takes a reason from the struck ones."""
    folk.unstrike(things[0])


def undo(folk, things):
    """Takes the last deed back."""
    folk.undo()


def parts_text(folk, things):
    """The parts."""
    return sets_text(parts_of(folk.ground()))


def joining_text(folk, things):
    """The told joining."""
    return sets_text(joining_of(folk.ground())[0])


def best_text(folk, things):
    """The best joining."""
    return sets_text(best_of(folk.ground())[0])


def sets_text(sets):
    """The text of a joining, which is empty where nobody stands."""
    return show_joining(sets) if sets else "none"


def why_text(folk, things):
    """Why two names are one."""
    way = why_one(folk.ground(), things[0], things[1])
    if way is None:
        return "apart"
    return ", ".join([show_reason(reason) for reason in way]) if way else "same"


def hangs_text(folk, things):
    """What hangs on a reason."""
    told = hangs_on(folk.ground(), things[0])
    return told[0] if told[0] == "stays" else show_joining(told[1:])


def fate_text(folk, things):
    """What becomes of a reason."""
    told = fate_of(folk.ground(), things[0])
    return f"{told[0]} {show_bar(told[1])}" if told[0] == "barred" else told[0]


def book_text(folk, things):
    """The book."""
    return show_book(folk.book())


def ground_text(folk, things):
    """The ground."""
    return show_ground(folk.ground())


def paper_text(folk, things):
    """Whether the checker takes what is told with its paper."""
    ground = folk.ground()
    if things[0] == "best":
        taken = holds(("best", ground, tuple(best_of(ground)[0])), cases_of(ground))
    else:
        sets, kept, barred = joining_of(ground)
        taken = holds(("joining", ground, tuple(sets)), (tuple(kept), tuple(barred)))
    return "holds" if taken else "no"


DEEDS = {
    "put": put,
    "drop": drop,
    "tell": tell,
    "untell": untell,
    "bar": bar,
    "unbar": unbar,
    "strike": strike,
    "unstrike": unstrike,
    "undo": undo,
}

QUESTIONS = {
    "parts": parts_text,
    "joining": joining_text,
    "best": best_text,
    "why": why_text,
    "hangs": hangs_text,
    "fate": fate_text,
    "book": book_text,
    "ground": ground_text,
    "paper": paper_text,
}


class Desk:
    """Folk that are kept by rows of words."""

    def __init__(self, rules):
        self.folk = Folk(rules)

    def say(self, row):
        """The answer to a row, which may be a thing of any kind."""
        word, things = read_words(row)
        if word in DEEDS:
            deed = DEEDS[word]
            deed(self.folk, things)
            return "ok"
        question = QUESTIONS[word]
        return question(self.folk, things)

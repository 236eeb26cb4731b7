"""Texts of grounds and joinings read sign by sign, and texts with some signs spoilt."""

SMALL = "abcdefghijklmnopqrstuvwxyz"
SPOILS = " ,-/|\n\n  --//:;._ABZabnz0019~"


class Wrong(Exception):
    pass


class Signs:
    """One row, of which the signs are taken one behind the other."""

    def __init__(self, row):
        self.row, self.at = row, 0

    def peek(self):
        return self.row[self.at] if self.at < len(self.row) else None

    def expect(self, signs):
        for sign in signs:
            if self.peek() != sign:
                raise Wrong
            self.at += 1

    def run(self, allowed, most):
        start = self.at
        while self.peek() is not None and self.peek() in allowed:
            self.at += 1
        if not 1 <= self.at - start <= most:
            raise Wrong
        return self.row[start:self.at]

    def name(self):
        return self.run(SMALL, 8)

    def number(self):
        figures = self.run("0123456789", 6)
        if figures[0] == "0" and len(figures) > 1:
            raise Wrong
        return int(figures)

    def end(self):
        if self.peek() is not None:
            raise Wrong


def cut_rows(text):
    rows = [""]
    for sign in text:
        if sign == "\n":
            rows.append("")
        else:
            rows[-1] += sign
    return rows


def take_names(row):
    signs = Signs(row)
    signs.expect("names")
    names = []
    while signs.peek() is not None:
        signs.expect(" ")
        names.append(signs.name())
        if len(names) > 1 and names[-2] >= names[-1]:
            raise Wrong
    return names


def take_row(row, names):
    """(0, reason) or (1, bar), each so that an earlier one is less than a later one."""
    signs = Signs(row)
    one = signs.name()
    kind = 1 if signs.peek() == "/" else 0
    signs.expect("-/"[kind])
    other = signs.name()
    signs.expect(" ")
    numbers = [signs.number()]
    if kind == 0:
        signs.expect(" ")
        numbers.append(signs.number())
        if not 1 <= numbers[0] <= 1000:
            raise Wrong
    signs.end()
    if not one < other or one not in names or other not in names:
        raise Wrong
    return (1, one, other, numbers[0]) if kind else (0, -numbers[0], one, other, numbers[1])


def ground_by_signs(text):
    """The ground of a text, or the number of its first wrong row."""
    found = []
    for at, row in enumerate(cut_rows(text)):
        try:
            if at == 0:
                names = take_names(row)
                continue
            found.append(take_row(row, names))
            if len(found) > 1 and not found[-2] < found[-1]:
                raise Wrong
        except Wrong:
            return at
    reasons = tuple((-place[1],) + place[2:] for place in found if place[0] == 0)
    return (tuple(names), reasons, tuple(place[1:] for place in found if place[0] == 1))


def joining_by_signs(text):
    """The joining of a text, or None."""
    sets, signs = [], Signs(text)
    try:
        while text:
            own = [signs.name()]
            sets.append(own)
            while signs.row[signs.at:signs.at + 2] not in ("", " |"):
                signs.expect(" ")
                own.append(signs.name())
            if signs.peek() is None:
                break
            signs.expect(" | ")
    except Wrong:
        return None
    names = [name for own in sets for name in own]
    if len(names) != len(set(names)) or [own[0] for own in sets] != sorted(own[0] for own in sets):
        return None
    return [tuple(own) for own in sets] if all(own == sorted(own) for own in sets) else None


def spoilt(chance, text, many):
    """The text with so many signs left out, put in, exchanged or turned round."""
    for _ in range(many):
        at = chance.randrange(len(text) + 1)
        how = chance.randrange(4)
        if how == 0:
            text = text[:at] + text[at + 1:]
        elif how == 1:
            text = text[:at] + chance.choice(SPOILS) + text[at:]
        elif how == 2:
            text = text[:at] + chance.choice(SPOILS) + text[at + 1:]
        else:
            text = text[:at] + text[at:at + 2][::-1] + text[at + 2:]
    return text

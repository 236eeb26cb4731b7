"""Pairs of sets of two joinings that share the most names, and prices that show that none share more."""

from onefolk.steps import refuse_other_names


def moved_between(one, other):
    """The pairs, the moved names, and the prices of the sets of both joinings."""
    refuse_other_names(one, other)
    shares = shares_of(one, other)
    prices = ([max(row) for row in shares], [0 for row in shares])
    mates = {}
    for row in range(len(shares)):
        find_mate(shares, prices, mates, row)
    pairs = sorted([(row, column) for column, row in mates.items() if shares[row][column] > 0])
    stayed = [name for row, column in pairs for name in shared(one[row], other[column])]
    moved = sorted([name for own in one for name in own if name not in stayed])
    return (pairs, moved, (tuple(prices[0][:len(one)]), tuple(prices[1][:len(other)])))


def shared(own, other):
    """The names that two sets share."""
    return [name for name in own if name in other]


def shares_of(one, other):
    """How many names each set shares with each of the other joining; empty sets make columns as many as rows."""
    size = max(len(one), len(other))
    return [[len(shared(own, each)) for each in filled(other, size)] for own in filled(one, size)]


def filled(sets, size):
    """So many sets, those that are missing empty."""
    return sets + [()] * (size - len(sets))


def find_mate(shares, prices, mates, start):
    """Gives a row a column as its mate, and other rows other ones where need be.

    Mates come to just what they share, and no two come to less. A column's price is 0 until it has a mate, so it is
    0 of the last one that gets one; so no row's price ends below 0, since it comes to no less than 0 with that one.
    """
    rows = [start]
    came_from = {}
    column = None
    while column is None or column in mates:
        if column is not None:
            rows.append(mates[column])
        row, column = nearest_pair(shares, prices, rows, came_from)
        shift_prices(prices, rows, came_from, excess(shares, prices, row, column))
        came_from[column] = row
    hand_on(mates, came_from, column)


def nearest_pair(shares, prices, rows, came_from):
    """Of these rows, each with every column that isn't come to yet, the pair of the least excess."""
    pairs = [(row, column) for row in rows for column in range(len(shares)) if column not in came_from]
    return min(pairs, key=lambda pair: excess(shares, prices, pair[0], pair[1]))


def excess(shares, prices, row, column):
    """What the prices of a row and a column come to beyond what they share."""
    return prices[0][row] + prices[1][column] - shares[row][column]


def shift_prices(prices, rows, came_from, amount):
    """Lowers the prices of the rows, and raises those of the columns that they came to as much."""
    for row in rows:
        prices[0][row] -= amount
    for column in came_from:
        prices[1][column] += amount


def hand_on(mates, came_from, column):
    """Mates a column with the row that came to it, whose old one goes to the row that came there, and so on."""
    while column is not None:
        row = came_from[column]
        old = [other for other in mates if mates[other] == row]
        mates[column] = row
        column = old[0] if old else None

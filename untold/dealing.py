"""Checked dealing: squares, the lines of the parties, and which parties agree about them."""

from itertools import combinations

from untold.polys import added, scaled, through, value_at, values_at
from untold.sharing import parties_of, veil_of


def square(setting, s, coins):
    """The square with number s and the coins put in row by row, each row from its own index on."""
    t = setting[3]
    numbers = (s, *coins)
    rows = []
    used = 0
    for j in range(t + 1):
        # What stands ahead of item j is told by the rows ahead: item j of row k is item k of row j.
        ahead = [row[j] for row in rows]
        end = used + t + 1 - j
        rows.append((*ahead, *numbers[used:end]))
        used = end
    return tuple(rows)


def lines(setting, square):
    """The line of each party: the values of the rows of the square at it."""
    p = setting[1]
    return tuple([tuple([value_at(p, row, party) for row in square]) for party in parties_of(setting)])


def agreeing(setting, lines):
    """All pairs of parties (i, j), i less than j, that agree about their lines, ascending."""
    every = parties_of(setting)
    rows = [values_at(setting[1], line, every) for line in lines]
    return tuple([(i, j) for i in every for j in every if i < j and rows[i - 1][j - 1] == rows[j - 1][i - 1]])


def all_agree(pairs, some):
    """Whether any two of some parties are among the pairs that agree."""
    return all([(i, j) in pairs for i in some for j in some if i < j])


def core(setting, lines):
    """The first of the greatest sets of parties that all agree with one another."""
    n = setting[2]
    pairs = agreeing(setting, lines)
    for many in range(n, 1, -1):
        for some in combinations(range(1, n + 1), many):
            if all_agree(pairs, some):
                return some
    return (1,)


def square_of(setting, lines, some):
    """The square that has the lines of some parties, more than t of them, or None if they do not all agree."""
    _, p, _, t = setting
    if not all_agree(agreeing(setting, lines), some):
        return None
    # Item j of the lines is what row j of the square has as its values, and t + 1 of them tell the row.
    points = some[:t + 1]
    return tuple([through(p, points, tuple([lines[i - 1][j] for i in points])) for j in range(t + 1)])


def veiled(setting, square, d, some):
    """The square with a number greater by d, and the same lines of some parties, at most t."""
    p = setting[1]
    poly = veil_of(setting, some)
    return tuple([added(p, row, scaled(p, d * number, poly)) for row, number in zip(square, poly)])

"""Runs: the parties reckon each wire on their shares, and share anew where a row takes coins."""

from untold.coins import coins_by_row, places
from untold.polys import added, combined, scaled, through, weights
from untold.programs import input_rows, output_rows
from untold.sharing import parties_of, spread


def alone(p, row, found, many):
    """What so many parties reckon for a row, each for itself, with their shares found so far; None without a wire."""
    word = row[0]
    if word == "const":
        return (row[1],) * many
    if word == "times":
        return scaled(p, row[1], found[row[2]])
    if word == "sum":
        return added(p, found[row[1]], found[row[2]])
    if word == "less":
        return combined(p, (1, -1), (found[row[1]], found[row[2]]))
    return None


def multiplied(p, row, found):
    """The products of the shares of both wires of a row product, party by party."""
    return tuple([a * b % p for a, b in zip(found[row[1]], found[row[2]])])


def dealt(setting, row, found, own):
    """The polynomials by which the parties share for a row product (g) or kept (z), party by party."""
    _, p, n, _ = setting
    numbers = multiplied(p, row, found) if row[0] == "product" else (0,) * n
    return [(number, *coins) for number, coins in zip(numbers, own)]


def product_shares(setting, row, found, own):
    """The shares of a row product: each party's is the weighed sum of what all parties deal to it."""
    p = setting[1]
    factors = weights(p, parties_of(setting), 0)
    # The weighed sum of the polynomials has the weighed sums of their values as its values.
    return spread(setting, combined(p, factors, dealt(setting, row, found, own)))


def kept_shares(setting, row, found, own):
    """The shares of a row kept: the old ones and all that is dealt to hide them."""
    _, p, n, _ = setting
    return added(p, found[row[1]], spread(setting, combined(p, (1,) * n, dealt(setting, row, found, own))))


def row_shares(setting, row, found, own, number):
    """The shares of a row behind those ahead of it; own are its coins, number is the input of a row in."""
    if row[0] == "in":
        return spread(setting, (number, *own[0]))
    if row[0] == "product":
        return product_shares(setting, row, found, own)
    if row[0] == "kept":
        return kept_shares(setting, row, found, own)
    return alone(setting[1], row, found, setting[2])


def numbers_by_row(program, inputs):
    """For the index of each row in its input."""
    return dict(zip(input_rows(program), inputs))


def run(setting, program, inputs, coins):
    """A tuple with, for each row, the tuple of the shares of all parties, None where it gives no wire."""
    own = coins_by_row(coins, places(setting, program))
    numbers = numbers_by_row(program, inputs)
    found = []
    for k, row in enumerate(program[1]):
        found.append(row_shares(setting, row, found, own[k], numbers.get(k)))
    return tuple(found)


def poly_of(setting, row):
    """The polynomial of t + 1 numbers with these shares."""
    many = setting[3] + 1
    return through(setting[1], parties_of(setting)[:many], row[:many])


def polys_of(setting, shares):
    """For what run gives, the polynomials of t + 1 numbers, None where a row gives no wire."""
    return tuple([None if row is None else poly_of(setting, row) for row in shares])


def sent(setting, program, inputs, coins):
    """For each row out a triple (index, party, the shares that all parties send to it)."""
    found = run(setting, program, inputs, coins)
    rows = program[1]
    return tuple([(k, rows[k][2], found[rows[k][1]]) for k in output_rows(program)])

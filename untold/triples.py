"""Runs in which a dealer, whom nobody watches, makes products ahead for the rows product."""

from untold.coins import coins_by_row, coins_in_order, placed, sharings
from untold.matching import check_agree, gaps_of, moved_but_products, row_veils, shifted
from untold.polys import combined
from untold.programs import rows_of
from untold.runs import numbers_by_row, row_shares
from untold.sharing import shares, told
from untold.views import items_but_products, picked, row_watchers


def triple_sizes(setting, row):
    """How many coins each part of a row takes: of a row product x and y, and what shares x, y and their product."""
    t = setting[3]
    if row[0] == "product":
        return (2, t, t, t)
    return (t,) * sharings(setting, row)


def triple_places(setting, program):
    """A tuple with, for each row, the tuple of the places of its coins; for a row product four tuples."""
    return placed([triple_sizes(setting, row) for row in program[1]])


def triple_coins_of(setting, program):
    """How many coins a run with triples takes."""
    return sum([sum(triple_sizes(setting, row)) for row in program[1]])


def triple_of(setting, own):
    """The shares of x, of y and of their product, by the coins of a row product."""
    (x, y), of_x, of_y, of_both = own
    return shares(setting, x, of_x), shares(setting, y, of_y), shares(setting, x * y % setting[1], of_both)


def told_to_all(setting, row, found, own):
    """What the parties show to all for a row product: the shares of a less x, and those of b less y."""
    p = setting[1]
    xs, ys, _ = triple_of(setting, own)
    return combined(p, (1, -1), (found[row[1]], xs)), combined(p, (1, -1), (found[row[2]], ys))


def number_of(setting, row):
    """The number that the shares of all parties are read as, none of them wrong."""
    return told(setting, tuple(enumerate(row, start=1)))


def triple_product(setting, row, found, own):
    """The shares of a row product, by its triple and what is shown to all."""
    _, p, n, _ = setting
    xs, ys, both = triple_of(setting, own)
    d, e = [number_of(setting, differences) for differences in told_to_all(setting, row, found, own)]
    return combined(p, (1, d, e, d * e), (both, ys, xs, (1,) * n))


def triple_run(setting, program, inputs, coins):
    """A tuple with, for each row, the tuple of the shares of all parties, None where it gives no wire."""
    own = coins_by_row(coins, triple_places(setting, program))
    numbers = numbers_by_row(program, inputs)
    found = []
    for k, row in enumerate(program[1]):
        if row[0] == "product":
            found.append(triple_product(setting, row, found, own[k]))
        else:
            found.append(row_shares(setting, row, found, own[k], numbers.get(k)))
    return tuple(found)


def triple_item(setting, row, found, own, watched):
    """The item of a row product: the watched shares of the triple, and all that is shown to all."""
    if not watched:
        return ()
    seen = [picked(some, watched) for some in triple_of(setting, own)]
    return (*seen, *told_to_all(setting, row, found, own))


def triple_view(setting, program, inputs, coins, watchers):
    """The view of the watchers of a run with triples: a tuple with one item for each row."""
    own = coins_by_row(coins, triple_places(setting, program))
    found = triple_run(setting, program, inputs, coins)
    here = row_watchers(program, watchers)
    items = items_but_products(setting, program, inputs, own, found, watchers)
    for k in rows_of(program, "product"):
        items[k] = triple_item(setting, program[1][k], found, own[k], here[k])
    return tuple(items)


def moved_triple(p, row, own, gaps, veil):
    """The coins of a row product behind the matching with triples."""
    (x, y), of_x, of_y, of_both = own
    d, e = gaps[row[1]], gaps[row[2]]
    other_x, other_y = (x + d) % p, (y + e) % p
    grown = other_x * other_y - x * y
    return (other_x, other_y), shifted(p, of_x, d, veil), shifted(p, of_y, e, veil), shifted(p, of_both, grown, veil)


def triple_matched(setting, program, first, second, coins, watchers):
    """The triple coins behind which the watchers see with second what they see with first and these coins."""
    check_agree(setting, program, first, second, watchers)
    own = coins_by_row(coins, triple_places(setting, program))
    gaps = gaps_of(setting, program, first, second)
    veils = row_veils(setting, program, watchers)
    moved = moved_but_products(setting, program, own, gaps, watchers)
    for k in rows_of(program, "product"):
        moved[k] = moved_triple(setting[1], program[1][k], own[k], gaps, veils[k])
    return coins_in_order(moved)

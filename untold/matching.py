"""Matched runs: other coins behind which watchers see the very same with other inputs."""

from untold.coins import coins_by_row, coins_in_order, places
from untold.errors import BadState
from untold.plain import values
from untold.polys import added, combined, scaled
from untold.programs import row_epochs, rows_of
from untold.runs import run
from untold.sharing import parties_of, spread, veil_of
from untold.views import agree, row_stayers


def check_agree(setting, program, first, second, watchers):
    """None, or raises BadState if the inputs do not agree."""
    if not agree(setting, program, first, second, watchers):
        raise BadState("the inputs do not agree")


def gaps_of(setting, program, first, second):
    """For each row its plain value by second less that by first, None where it gives no wire."""
    p = setting[1]
    before = values(setting, program, first)
    after = values(setting, program, second)
    return [None if a is None else (b - a) % p for a, b in zip(before, after)]


def row_veils(setting, program, watchers):
    """For each row the veil of its epoch."""
    veils = [veil_of(setting, some) for some in watchers]
    return [veils[epoch] for epoch in row_epochs(program)]


def shifted(p, coins, c, poly):
    """The coins and c times the numbers of a polynomial from the second on."""
    return added(p, coins, scaled(p, c, poly[1:]))


def moved_kept(setting, own, gap, turn, both):
    """The coins of a row kept, moved by gap times turn for the least party that is not in both epochs."""
    least = [party for party in parties_of(setting) if party not in both][:1]
    return tuple([shifted(setting[1], coins, gap, turn) if party in least else coins
                  for party, coins in enumerate(own, start=1)])


def moved_but_products(setting, program, own, gaps, watchers):
    """A list with the coins of each row behind the matching, those of rows product as they are in own."""
    p = setting[1]
    veils = row_veils(setting, program, watchers)
    both = row_stayers(program, watchers)
    moved = list(own)
    for k in rows_of(program, "in"):
        moved[k] = (shifted(p, own[k][0], gaps[k], veils[k]),)
    for k in rows_of(program, "kept"):
        a = program[1][k][1]
        turn = combined(p, (1, -1), (veils[k], veils[a]))
        moved[k] = moved_kept(setting, own[k], gaps[a], turn, both[k])
    return moved


def moved_product(setting, row, found, own, gaps, veil):
    """The coins of a row product, each party's moved by how much the product of its shares differs."""
    p = setting[1]
    moved = []
    for a, b, at, coins in zip(found[row[1]], found[row[2]], spread(setting, veil), own):
        other = (a + gaps[row[1]] * at) * (b + gaps[row[2]] * at)
        moved.append(shifted(p, coins, other - a * b, veil))
    return tuple(moved)


def matched(setting, program, first, second, coins, watchers):
    """The coins behind which the watchers see with second what they see with first and these coins."""
    check_agree(setting, program, first, second, watchers)
    own = coins_by_row(coins, places(setting, program))
    found = run(setting, program, first, coins)
    gaps = gaps_of(setting, program, first, second)
    veils = row_veils(setting, program, watchers)
    moved = moved_but_products(setting, program, own, gaps, watchers)
    for k in rows_of(program, "product"):
        moved[k] = moved_product(setting, program[1][k], found, own[k], gaps, veils[k])
    return coins_in_order(moved)

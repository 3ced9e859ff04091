"""Views: what the watched parties of each epoch see of a run."""

from untold.coins import coins_by_row, places
from untold.kinds import is_whole
from untold.plain import shown
from untold.polys import values_at
from untold.programs import epochs, input_rows, row_epochs, rows_of
from untold.runs import dealt, numbers_by_row, run


def can_be_watched(setting, some):
    """Whether a thing is a tuple of at most t parties, ascending, unlike."""
    _, _, n, t = setting
    if not isinstance(some, tuple) or len(some) > t:
        return False
    if not all([is_whole(party) and 1 <= party <= n for party in some]):
        return False
    return all([low < high for low, high in zip(some, some[1:])])


def check_watchers(setting, program, watchers):
    """Whether a thing is watchers: for each epoch one tuple of at most t parties."""
    if not isinstance(watchers, tuple) or len(watchers) != epochs(program):
        return False
    return all([can_be_watched(setting, some) for some in watchers])


def row_watchers(program, watchers):
    """For each row the watched parties of its epoch."""
    return [watchers[epoch] for epoch in row_epochs(program)]


def row_stayers(program, watchers):
    """For each row the parties that are watched in its epoch and in the one ahead, too."""
    ahead = ((), *watchers)
    return [tuple([i for i in watchers[epoch] if i in ahead[epoch]]) for epoch in row_epochs(program)]


def picked(row, some):
    """The shares of some parties out of those of all."""
    return tuple([row[party - 1] for party in some])


def dealt_item(p, polys, some):
    """What some parties see of polynomials, one of each party: the coins of their own, their values of all others."""
    return tuple([poly[1:] if i in some else values_at(p, poly, some) for i, poly in enumerate(polys, start=1)])


def in_item(party, number, coins, row, watched):
    """The item of a row in of a party, row being the shares of all."""
    if party in watched:
        return ("own", number, coins)
    return ("sent", picked(row, watched))


def items_but_products(setting, program, inputs, own, found, watchers):
    """A list of the items of a view, () for each row product; own are the coins of the rows, found their shares."""
    numbers = numbers_by_row(program, inputs)
    here = row_watchers(program, watchers)
    both = row_stayers(program, watchers)
    items = []
    for k, row in enumerate(program[1]):
        item = ()
        if row[0] == "in":
            item = in_item(row[1], numbers[k], own[k][0], found[k], here[k])
        elif row[0] == "kept":
            at_the_mark = dealt_item(setting[1], dealt(setting, row, found, own[k]), both[k])
            item = (at_the_mark, picked(found[k], here[k]))
        elif row[0] == "out" and row[2] in here[k]:
            item = found[row[1]]
        items.append(item)
    return items


def view(setting, program, inputs, coins, watchers):
    """The view of the watchers: a tuple with one item for each row."""
    own = coins_by_row(coins, places(setting, program))
    found = run(setting, program, inputs, coins)
    here = row_watchers(program, watchers)
    items = items_but_products(setting, program, inputs, own, found, watchers)
    for k in rows_of(program, "product"):
        items[k] = dealt_item(setting[1], dealt(setting, program[1][k], found, own[k]), here[k])
    return tuple(items)


def given_and_got(setting, program, inputs, watchers):
    """The inputs of the watched parties, and what is shown to them, each in their epoch."""
    here = row_watchers(program, watchers)
    rows = program[1]
    given = [number for k, number in zip(input_rows(program), inputs) if rows[k][1] in here[k]]
    got = [value for k, party, value in shown(setting, program, inputs) if party in here[k]]
    return given, got


def agree(setting, program, first, second, watchers):
    """Whether the watched parties give and get the same with both rows of inputs."""
    return given_and_got(setting, program, first, watchers) == given_and_got(setting, program, second, watchers)

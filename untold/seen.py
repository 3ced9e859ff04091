"""What watchers, however many, can reckon from their view alone."""

from untold.polys import combined, values_at, weights
from untold.runs import alone, multiplied
from untold.sharing import parties_of, told
from untold.views import row_watchers


def seen_in(p, item, watched):
    """The watched shares of a row in: as they were sent, or by the own input and coins."""
    if item[0] == "sent":
        return item[1]
    return values_at(p, (item[1], *item[2]), watched)


def seen_product(setting, row, item, watched, found):
    """The watched shares of a row product: the weighed sum of what all parties deal to those who are watched."""
    p = setting[1]
    dealt_to_them = list(item)
    # Of a watched party the view has the coins, and its shares of both wires are known by now.
    for party, number in zip(watched, multiplied(p, row, found)):
        dealt_to_them[party - 1] = values_at(p, (number, *item[party - 1]), watched)
    return combined(p, weights(p, parties_of(setting), 0), dealt_to_them)


def seen_row(setting, row, item, watched, found):
    """The watched shares of a row behind those of the rows ahead of it, None where it gives no wire."""
    if row[0] == "in":
        return seen_in(setting[1], item, watched)
    if row[0] == "product":
        return seen_product(setting, row, item, watched, found)
    if row[0] == "kept":
        return item[1]
    return alone(setting[1], row, found, len(watched))


def shares_seen(setting, program, seen, watchers):
    """A tuple with, for each row, the shares of the watched parties of its epoch, None where it gives no wire."""
    found = []
    for row, item, watched in zip(program[1], seen, row_watchers(program, watchers)):
        found.append(seen_row(setting, row, item, watched, found))
    return tuple(found)


def opened(setting, program, seen, watchers):
    """A tuple with the plain value of each wire of an epoch in which more than t are watched, otherwise None."""
    found = []
    for row, watched in zip(shares_seen(setting, program, seen, watchers), row_watchers(program, watchers)):
        found.append(None if row is None else told(setting, tuple(zip(watched, row))))
    return tuple(found)

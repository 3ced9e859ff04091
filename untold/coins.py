"""Coins: how many a run takes, and which of them belong to which row."""


def sharings(setting, row):
    """How many times a row shares something, each time with t coins."""
    if row[0] == "in":
        return 1
    if row[0] in ("product", "kept"):
        return setting[2]
    return 0


def coins_of(setting, program):
    """How many coins a run takes."""
    return setting[3] * sum([sharings(setting, row) for row in program[1]])


def placed(sizes):
    """For each row the places of its coins, part by part; sizes has how many coins each part of each row takes."""
    found = []
    done = 0
    for row in sizes:
        parts = []
        for many in row:
            parts.append(tuple(range(done, done + many)))
            done += many
        found.append(tuple(parts))
    return tuple(found)


def places(setting, program):
    """A tuple with, for each row, the tuple of the places of its coins."""
    return placed([(setting[3],) * sharings(setting, row) for row in program[1]])


def coins_by_row(coins, where):
    """For each row the coins that stand at its places, part by part."""
    return [tuple([tuple([coins[place] for place in part]) for part in parts]) for parts in where]


def coins_in_order(by_row):
    """The coins of all rows one behind the other, from what coins_by_row gives."""
    return tuple([coin for parts in by_row for part in parts for coin in part])

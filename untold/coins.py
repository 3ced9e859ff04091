"""Coins: how many a run takes, and which of them belong to which row."""


def sharings(setting, row):
    """How many times a row shares something, each time with t coins."""
    if row[0] == "in":
        return 1
    if row[0] in ("product", "kept"):
        return setting[2]
    return 0


def coins_of(setting, program):
    """How many coins a run takes."""
    return setting[3] * sum([sharings(setting, row) for row in program[1]])


def places(setting, program):
    """A tuple with, for each row, the tuple of the places of its coins."""
    t = setting[3]
    found = []
    done = 0
    for row in program[1]:
        end = done + sharings(setting, row)
        found.append(tuple([tuple(range(t * k, t * k + t)) for k in range(done, end)]))
        done = end
    return tuple(found)

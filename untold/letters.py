"""Letters: what each party of a run sends to each other one, and what is a party's own."""

from untold.coins import coins_by_row, placed, places
from untold.kinds import is_number, is_whole
from untold.programs import input_rows
from untold.runs import dealt, run
from untold.sharing import parties_of, spread


def sends(setting, program, k, i, j):
    """Whether party i sends party j a letter about row k."""
    row = program[1][k]
    if i == j:
        return False
    if row[0] == "in":
        return i == row[1]
    if row[0] == "out":
        return j == row[2]
    return row[0] in ("product", "kept")


def senders(setting, program, k, j):
    """The parties that send party j a letter about row k, ascending."""
    return [i for i in parties_of(setting) if sends(setting, program, k, i, j)]


def getters(setting, row):
    """The parties that get something of a row: a share each of a wire, one of them what is shown to it."""
    if row[0] == "next":
        return ()
    if row[0] == "out":
        return (row[2],)
    return parties_of(setting)


def letters_to_all(setting, program, k, i, numbers):
    """The letters about row k of party i, which has a number for each party."""
    return [("letter", k, i, j, numbers[j - 1]) for j in parties_of(setting) if sends(setting, program, k, i, j)]


def numbers_for(setting, row, found, own, shared):
    """For each party the numbers that it has for all parties about a row with letters; shared are the row's shares."""
    n = setting[2]
    if row[0] == "in":
        return [shared] * n
    if row[0] == "out":
        return [(share,) * n for share in found[row[1]]]
    return [spread(setting, poly) for poly in dealt(setting, row, found, own)]


def letters_of(setting, program, inputs, coins):
    """A tuple of all letters of the run, ascending."""
    found = run(setting, program, inputs, coins)
    own = coins_by_row(coins, places(setting, program))
    letters = []
    for k, row in enumerate(program[1]):
        if row[0] in ("in", "out", "product", "kept"):
            for i, numbers in enumerate(numbers_for(setting, row, found, own[k], found[k]), start=1):
                letters.extend(letters_to_all(setting, program, k, i, numbers))
    return tuple(letters)


def is_letter_to(setting, program, party, thing):
    """Whether a thing is a letter that some party sends this one, whatever its number is."""
    if not isinstance(thing, tuple) or len(thing) != 5 or thing[0] != "letter":
        return False
    if not all([is_whole(x) for x in thing[1:]]):
        return False
    _, k, i, j, x = thing
    if j != party or not is_number(setting[1], x) or not 0 <= k < len(program[1]):
        return False
    return i in senders(setting, program, k, j)


def own_input_rows(program, party):
    """The indices of the rows in of a party, ascending."""
    return [k for k in input_rows(program) if program[1][k][1] == party]


def own_inputs(program, inputs, party):
    """The inputs of a party's rows in, in their order."""
    numbers = dict(zip(input_rows(program), inputs))
    return tuple([numbers[k] for k in own_input_rows(program, party)])


def draws(row, party):
    """Whether a party draws coins for a row."""
    return row[0] in ("product", "kept") or row == ("in", party)


def own_places(setting, program, party):
    """For each row the places of a party's coins among its own: one tuple, or none."""
    return placed([(setting[3],) if draws(row, party) else () for row in program[1]])


def own_coins(setting, program, coins, party):
    """The coins that a party draws, row by row."""
    found = []
    for row, parts in zip(program[1], coins_by_row(coins, places(setting, program))):
        if draws(row, party):
            found.extend(parts[0] if row[0] == "in" else parts[party - 1])
    return tuple(found)

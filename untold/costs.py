"""What a run costs: its letters, its rounds, and the longest chains of letters that wait for one another."""

from untold.letters import getters, senders
from untold.programs import named


def many_letters(setting, program):
    """How many letters a run has."""
    n = setting[2]
    costs = {"in": n - 1, "out": n - 1, "product": n * (n - 1), "kept": n * (n - 1)}
    return sum([costs.get(row[0], 0) for row in program[1]])


def ready(row, times, i):
    """Behind how many rounds party i has its shares of the wires that a row names."""
    return max([times[a][i] for a in named(row)], default=0)


def over(setting, program, k, times, j):
    """Behind how many rounds party j has what row k gives it, by the times of the rows ahead."""
    row = program[1][k]
    comes = [ready(row, times, i) + 1 for i in senders(setting, program, k, j)]
    return max([ready(row, times, j), *comes])


def times_of(setting, program):
    """A list with, for each row, behind how many rounds each party that gets something of it has that."""
    times = []
    for k, row in enumerate(program[1]):
        times.append({j: over(setting, program, k, times, j) for j in getters(setting, row)})
    return times


def clock(setting, program):
    """A tuple with, for each row, behind how many rounds the parties have their shares, or one has read it."""
    return tuple([tuple(row.values()) for row in times_of(setting, program)])


def rounds(setting, program):
    """How many rounds there are until no letter is on the way."""
    return max([time for row in clock(setting, program) for time in row], default=0)


def awaited(setting, program, times, k, j):
    """The letter for which party j waited to have what row k gives it; None if it waited for none."""
    row = program[1][k]
    late = [i for i in senders(setting, program, k, j) if ready(row, times, i) + 1 == times[k][j]]
    if late:
        return (k, late[0], j)
    return awaited_ahead(setting, program, times, k, j)


def awaited_ahead(setting, program, times, k, i):
    """The letter for which party i waited to have its shares of the wires that row k names, or None."""
    row = program[1][k]
    for a in named(row):
        if times[a][i] == ready(row, times, i):
            return awaited(setting, program, times, a, i)
    return None


def chain(setting, program):
    """A longest chain of letters (row, sender, taker), in which each waits for the one ahead."""
    times = times_of(setting, program)
    most = rounds(setting, program)
    found = []
    if most > 0:
        ends = [(at, party) for at, row in enumerate(times) for party in row if row[party] == most]
        k, j = ends[0]
        letter = awaited(setting, program, times, k, j)
        while letter is not None:
            found.append(letter)
            letter = awaited_ahead(setting, program, times, letter[0], letter[1])
    return tuple(reversed(found))

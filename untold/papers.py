"""Papers of parties: what a party holds as a text, and what watchers see by such texts."""

from untold.coins import coins_by_row
from untold.errors import BadEntry
from untold.kinds import are_numbers
from untold.letters import draws, own_input_rows, own_places
from untold.parties import Party
from untold.programtext import lines_of
from untold.sharing import parties_of
from untold.views import row_stayers, row_watchers
from untold.words import is_numeral


def format_line(word, numbers):
    """A line of a paper: a word and the numbers behind it."""
    return " ".join([word, *[f"{number}" for number in numbers]]) + "\n"


def write_paper(party):
    """The paper of a party."""
    heads = [("party", (party.number,)), ("inputs", party.inputs), ("coins", party.coins)]
    letters = [("got", (k, i, x)) for _, k, i, _, x in party.took]
    return "".join([format_line(word, numbers) for word, numbers in heads + letters])


def numbers_in(lines, line, word):
    """The numbers behind the word with which a line, counted from 1, has to begin; raises BadEntry."""
    words = lines[line - 1].split(" ") if line <= len(lines) else []
    if words[:1] != [word] or not all([is_numeral(said) for said in words[1:]]):
        raise BadEntry(line)
    return tuple([int(said) for said in words[1:]])


def party_in(setting, lines):
    """The party that the first line names; raises BadEntry."""
    some = numbers_in(lines, 1, "party")
    if len(some) != 1 or some[0] not in parties_of(setting):
        raise BadEntry(1)
    return some[0]


def own_in(setting, lines, line, word, many):
    """The so many inputs or coins that a line says; raises BadEntry."""
    some = numbers_in(lines, line, word)
    if not are_numbers(setting[1], some, many):
        raise BadEntry(line)
    return some


def take_in(party, lines, line):
    """Has the party take the letter that a line says; raises BadEntry."""
    some = numbers_in(lines, line, "got")
    if len(some) != 3:
        raise BadEntry(line)
    k, i, x = some
    letter = ("letter", k, i, party.number, x)
    if letter in party.took:
        raise BadEntry(line)
    try:
        party.take(letter)
    except BadEntry:
        raise BadEntry(line) from None


def read_paper(setting, program, text):
    """The party that a paper says; raises BadEntry with the first wrong line."""
    lines = lines_of(text)
    number = party_in(setting, lines)
    drawn = setting[3] * len([row for row in program[1] if draws(row, number)])
    inputs = own_in(setting, lines, 2, "inputs", len(own_input_rows(program, number)))
    party = Party(setting, program, number, inputs, own_in(setting, lines, 3, "coins", drawn))
    for line in range(4, len(lines) + 1):
        take_in(party, lines, line)
    return party


def picked_shares(parties, a, some):
    """The shares of wire a of some parties."""
    return tuple([parties[i].shares[a] for i in some])


def own_number(program, party, k):
    """The input of a party for its row in k."""
    return dict(zip(own_input_rows(program, party.number), party.inputs))[k]


def own_drawn(setting, program, party, k):
    """The coins of a party for row k."""
    return coins_by_row(party.coins, own_places(setting, program, party.number))[k][0]


def seen_of_in(setting, program, parties, k, watched):
    """The item of row in k."""
    owner = program[1][k][1]
    if owner not in watched:
        return ("sent", picked_shares(parties, k, watched))
    party = parties[owner]
    return ("own", own_number(program, party, k), own_drawn(setting, program, party, k))


def seen_of_dealt(setting, program, parties, got, k, some):
    """What some parties see of what all share for row k: the coins of their own, what they got from the others."""
    return tuple([own_drawn(setting, program, parties[i], k) if i in some else tuple([got[(k, i, j)] for j in some])
                  for i in parties_of(setting)])


def seen_of_out(setting, row, parties, got, k):
    """The item of row out k for its reader: all shares of the wire."""
    _, a, reader = row
    return tuple([parties[i].shares[a] if i == reader else got[(k, i, reader)] for i in parties_of(setting)])


def seen(setting, program, papers, watchers):
    """The view of the watchers, by the papers of the parties that are watched in some epoch."""
    parties = {}
    got = {}
    for text in papers:
        party = read_paper(setting, program, text)
        parties[party.number] = party
        for _, k, i, j, x in party.took:
            got[(k, i, j)] = x
    here = row_watchers(program, watchers)
    both = row_stayers(program, watchers)
    items = []
    for k, row in enumerate(program[1]):
        item = ()
        if row[0] == "in":
            item = seen_of_in(setting, program, parties, k, here[k])
        elif row[0] == "product":
            item = seen_of_dealt(setting, program, parties, got, k, here[k])
        elif row[0] == "kept":
            at_the_mark = seen_of_dealt(setting, program, parties, got, k, both[k])
            item = (at_the_mark, picked_shares(parties, k, here[k]))
        elif row[0] == "out" and row[2] in here[k]:
            item = seen_of_out(setting, row, parties, got, k)
        items.append(item)
    return tuple(items)

"""Parties that each hold their own inputs and coins and the letters that they took, and nothing else."""

from untold.coins import coins_by_row
from untold.errors import BadEntry
from untold.letters import (
    getters, is_letter_to, letters_to_all, own_coins, own_input_rows, own_inputs, own_places, senders,
)
from untold.outputs import number_heard
from untold.polys import weights
from untold.programs import named
from untold.runs import alone
from untold.sharing import parties_of, spread


class Party:
    """A party of a run, behind the letters that it took."""

    def __init__(self, setting, program, number, inputs, coins):
        rows = program[1]
        self._setting = setting
        self._program = program
        self._number = number
        self._inputs = inputs
        self._coins = coins
        self._given = dict(zip(own_input_rows(program, number), inputs))
        self._drawn = coins_by_row(coins, own_places(setting, program, number))
        self._took = []
        self._got = {}
        # For each row: how many letters about it are still to come, its share, its numbers for all, if it is over.
        self._due = [len(senders(setting, program, k, number)) for k in range(len(rows))]
        self._found = [None] * len(rows)
        self._dealt = [None] * len(rows)
        self._over = [False] * len(rows)
        self._made = []
        self._heard = {}
        self._go_on(0)

    @property
    def number(self):
        """The number of the party."""
        return self._number

    @property
    def inputs(self):
        """Its own inputs."""
        return self._inputs

    @property
    def coins(self):
        """Its own coins."""
        return self._coins

    @property
    def took(self):
        """The letters that it took, in the order in which they were."""
        return tuple(self._took)

    @property
    def shares(self):
        """Its share for each row, None where it has none or the row gives no wire."""
        return tuple([None if own is None else own[0] for own in self._found])

    @property
    def made(self):
        """The letters that it made, ascending."""
        return tuple(sorted(self._made))

    @property
    def read(self):
        """Pairs (index of the row, what was read) for the rows out that it has read, ascending."""
        return tuple(sorted(self._heard.items()))

    def _numbers_for(self, k):
        """Its numbers for all parties about row k, its own included; () if it has nothing to say about it."""
        row = self._program[1][k]
        _, p, n, _ = self._setting
        if row[0] == "out":
            return self._found[row[1]] * n
        if not self._drawn[k]:
            return ()
        number = self._given.get(k, 0)
        if row[0] == "product":
            number = self._found[row[1]][0] * self._found[row[2]][0] % p
        return spread(self._setting, (number, *self._drawn[k][0]))

    def _deal(self, k):
        """Makes its letters about row k, if it did not; these letters."""
        if self._dealt[k] is not None:
            return []
        self._dealt[k] = self._numbers_for(k)
        return letters_to_all(self._setting, self._program, k, self._number, self._dealt[k])

    def _from_all(self, k):
        """The numbers that all parties have for it about row k."""
        own = self._dealt[k][self._number - 1]
        return [own if i == self._number else self._got[(k, i)] for i in parties_of(self._setting)]

    def _share(self, k):
        """Its share of row k, as a tuple of one number, None without a wire."""
        row = self._program[1][k]
        p = self._setting[1]
        if row[0] == "in":
            return (self._dealt[k][self._number - 1] if k in self._given else self._got[(k, row[1])],)
        if row[0] == "product":
            factors = weights(p, parties_of(self._setting), 0)
            return (sum([c * x for c, x in zip(factors, self._from_all(k))]) % p,)
        if row[0] == "kept":
            return ((self._found[row[1]][0] + sum(self._from_all(k))) % p,)
        return alone(p, row, self._found, 1)

    def _end(self, k):
        """Reckons its share of row k, or reads it, all letters about it being there."""
        row = self._program[1][k]
        self._over[k] = True
        self._found[k] = self._share(k)
        if row[0] == "out" and row[2] == self._number:
            self._heard[k] = number_heard(self._setting, self._from_all(k))

    def _go_on(self, first):
        """Reckons all that can be from a row on; the letters made by this, ascending."""
        made = []
        for k in range(first, len(self._over)):
            row = self._program[1][k]
            if not self._over[k] and all([self._found[a] is not None for a in named(row)]):
                made.extend(self._deal(k))
                if self._due[k] == 0:
                    self._end(k)
        self._made.extend(made)
        return tuple(made)

    def take(self, letter):
        """Takes a letter; the tuple of the letters made by this, ascending. Raises BadEntry."""
        if not is_letter_to(self._setting, self._program, self._number, letter):
            raise BadEntry(0)
        _, k, i, _, x = letter
        if (k, i) in self._got:
            if self._got[(k, i)] != x:
                raise BadEntry(1)
            return ()
        self._got[(k, i)] = x
        self._took.append(letter)
        self._due[k] -= 1
        return self._go_on(k)

    def branch(self):
        """A party like it, which goes its own way."""
        other = Party(self._setting, self._program, self._number, self._inputs, self._coins)
        other._took = list(self._took)
        other._got = {about: self._got[about] for about in self._got}
        other._due = list(self._due)
        other._found = list(self._found)
        other._dealt = list(self._dealt)
        other._over = list(self._over)
        other._made = list(self._made)
        other._heard = dict(self._heard)
        return other

    def __eq__(self, other):
        """Whether both were made with the same and took the same letters, in whatever order."""
        if not isinstance(other, Party):
            return NotImplemented
        return (
            self._setting == other._setting and self._program == other._program and self._number == other._number
            and self._inputs == other._inputs and self._coins == other._coins and self._got == other._got
        )


def starting(setting, program, inputs, coins):
    """A list of the parties of a run that took no letters, in the order of their numbers."""
    return [Party(setting, program, i, own_inputs(program, inputs, i), own_coins(setting, program, coins, i))
            for i in parties_of(setting)]


def made_by_all(parties):
    """A list of the letters that parties have made, party by party."""
    return [letter for party in parties for letter in party.made]


def hand_over(parties, way, place):
    """Has the letter at a place of those on the way taken by its party; what is made by this comes behind."""
    letter = way.pop(place)
    way.extend(parties[letter[3] - 1].take(letter))


def carried(setting, program, inputs, coins, order):
    """The parties behind all letters, taken in this order, in the order of their numbers."""
    parties = starting(setting, program, inputs, coins)
    way = made_by_all(parties)
    for pick in order:
        if way:
            hand_over(parties, way, pick % len(way))
    while way:
        hand_over(parties, way, 0)
    return tuple(parties)


def reached_by(setting, program, k, found, gone):
    """The parties that row k reaches, by those that the rows ahead of it reach, if some letters are gone."""
    row = program[1][k]
    able = [i for i in parties_of(setting) if all([i in found[a] for a in named(row)])]
    reach = []
    for j in getters(setting, row):
        comes = [i in able and (k, i, j) not in gone for i in senders(setting, program, k, j)]
        if j in able and all(comes):
            reach.append(j)
    return tuple(reach)


def reached(setting, program, lost):
    """A tuple with, for each row, the tuple of the parties that it reaches if the lost letters never come."""
    gone = {letter: True for letter in lost}
    found = []
    for k in range(len(program[1])):
        found.append(reached_by(setting, program, k, found, gone))
    return tuple(found)

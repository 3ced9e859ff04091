"""Desks: they lead a run of parties, letter by letter."""

from untold.costs import many_letters
from untold.errors import BadEntry, BadState
from untold.kinds import is_number
from untold.parties import made_by_all, starting
from untold.programs import output_rows


class Desk:
    """The parties of a run, the letters on the way, and what was done to them.

    The tuples of parties and letters are never changed but replaced, parties by their branches, so that what was
    ahead of a deed can be kept as it is.
    """

    def __init__(self, setting, program, inputs, coins):
        self._setting = setting
        self._program = program
        self._inputs = inputs
        self._coins = coins
        self._parties = tuple(starting(setting, program, inputs, coins))
        self._way = tuple(made_by_all(self._parties))
        self._past = []

    @property
    def on_the_way(self):
        """The letters that are on the way."""
        return self._way

    @property
    def log(self):
        """A new list of the deeds that were done and not taken back."""
        return [deed for _, _, deed in self._past]

    @property
    def done(self):
        """Whether no letter is on the way."""
        return not self._way

    def parties(self):
        """A tuple of branches of the parties, in the order of their numbers."""
        return tuple([party.branch() for party in self._parties])

    def _letter_at(self, place):
        """The letter at a place of those on the way; raises BadEntry."""
        if not 0 <= place < len(self._way):
            raise BadEntry(place)
        return self._way[place]

    def _become(self, parties, way, *deed):
        """Goes on with these parties and letters behind a deed, and keeps those ahead of it."""
        self._past.append((self._parties, self._way, deed))
        self._parties = parties
        self._way = way

    def _without(self, place):
        """The letters on the way but for the one at a place."""
        return self._way[:place] + self._way[place + 1:]

    def hand(self, place):
        """Has the letter at a place taken by its party; the letters made by this. Raises BadEntry."""
        letter = self._letter_at(place)
        at = letter[3] - 1
        taker = self._parties[at].branch()
        made = taker.take(letter)
        parties = (*self._parties[:at], taker, *self._parties[at + 1:])
        self._become(parties, self._without(place) + made, "hand", place)
        return made

    def hold(self, place):
        """Moves the letter at a place behind all others; the letter. Raises BadEntry."""
        letter = self._letter_at(place)
        self._become(self._parties, (*self._without(place), letter), "hold", place)
        return letter

    def lose(self, place):
        """Takes the letter at a place off the way for good; the letter. Raises BadEntry."""
        letter = self._letter_at(place)
        self._become(self._parties, self._without(place), "lose", place)
        return letter

    def lie(self, place, x):
        """Gives the letter at a place the number x; the letter as it is then. Raises BadEntry and BadState."""
        letter = self._letter_at(place)
        if not is_number(self._setting[1], x):
            raise BadState("no number")
        lied = (*letter[:4], x)
        self._become(self._parties, (*self._way[:place], lied, *self._way[place + 1:]), "lie", place, x)
        return lied

    def turn(self):
        """Hands all letters that are on the way now, in their order; how many."""
        many = len(self._way)
        takers = self.parties()
        made = []
        for letter in self._way:
            made.extend(takers[letter[3] - 1].take(letter))
        self._become(takers, tuple(made), "turn")
        return many

    def undo(self):
        """Takes back the last deed; its name, or False if there is none."""
        if not self._past:
            return False
        self._parties, self._way, deed = self._past.pop()
        return deed[0]

    def _told_of(self, k):
        """The line of the report about row out k."""
        reader = self._program[1][k][2]
        found = dict(self._parties[reader - 1].read)
        told = "waits"
        if k in found:
            told = "nothing" if found[k] is None else f"{found[k]}"
        return f"row {k} to {reader}: {told}"

    def report(self):
        """A text about how far the run is."""
        taken = sum([len(party.took) for party in self._parties])
        many = many_letters(self._setting, self._program)
        names = [deed[0] for _, _, deed in self._past]
        lost = names.count("lose")
        lies = names.count("lie")
        lines = [f"taken {taken} of {many}", f"lost {lost}", f"lies {lies}"]
        lines.extend([self._told_of(k) for k in output_rows(self._program)])
        lines.append("open" if self._way else "done")
        return "".join([f"{line}\n" for line in lines])

    def branch(self):
        """A desk like it, also in what can be taken back, which goes its own way."""
        other = Desk(self._setting, self._program, self._inputs, self._coins)
        other._parties = self._parties
        other._way = self._way
        other._past = list(self._past)
        return other

    def __eq__(self, other):
        """Whether settings, programs, parties and the letters on the way are equal."""
        if not isinstance(other, Desk):
            return NotImplemented
        return (
            self._setting == other._setting and self._program == other._program
            and self._parties == other._parties and self._way == other._way
        )


def do(desk, deed):
    """Does a deed of a log at a desk."""
    name, *rest = deed
    if name == "hand":
        desk.hand(*rest)
    elif name == "hold":
        desk.hold(*rest)
    elif name == "lose":
        desk.lose(*rest)
    elif name == "lie":
        desk.lie(*rest)
    elif name == "turn":
        desk.turn()


def replayed(setting, program, inputs, coins, log):
    """A desk behind the deeds of a log; the first error is raised as it comes."""
    desk = Desk(setting, program, inputs, coins)
    for deed in log:
        do(desk, deed)
    return desk

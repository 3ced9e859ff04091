"""Papers of matched runs: anyone can look up that watchers see the same with other inputs."""

from untold.coins import coins_of
from untold.kinds import are_numbers
from untold.matching import matched
from untold.programs import input_rows
from untold.views import view


def paper(setting, program, first, second, coins, watchers):
    """A paper that holds: with second, and the coins matched to it, the watchers see the same as with first."""
    return ("unseen", first, second, coins, matched(setting, program, first, second, coins, watchers))


def is_paper(setting, program, thing):
    """Whether a thing has the form of a paper, with inputs and coins for this program."""
    if not isinstance(thing, tuple) or len(thing) != 5 or thing[0] != "unseen":
        return False
    given = len(input_rows(program))
    drawn = coins_of(setting, program)
    return all([are_numbers(setting[1], row, many) for row, many in zip(thing[1:], (given, given, drawn, drawn))])


def judge(setting, program, watchers, thing):
    """Whether a thing is a paper that holds for the setting, the program and the watchers."""
    if not is_paper(setting, program, thing):
        return False
    _, first, second, coins, other = thing
    return view(setting, program, first, coins, watchers) == view(setting, program, second, other, watchers)

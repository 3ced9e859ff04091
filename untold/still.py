"""What is still possible behind a view, and how many coins have each view."""

from untold.coins import coins_of
from untold.errors import TooGreat
from untold.programs import input_rows
from untold.views import given_and_got, view

MOST_TRIES = 20000


def all_rows(p, many):
    """All rows of so many numbers, ascending; raises TooGreat if there are too many to try."""
    count = 1
    for _ in range(many):
        count = count * p
    if count > MOST_TRIES:
        raise TooGreat(f"more than {MOST_TRIES} to try")
    rows = [()]
    for _ in range(many):
        rows = [(*row, number) for row in rows for number in range(p)]
    return rows


def still(setting, program, inputs, watchers):
    """All rows of inputs that agree with these, ascending."""
    tries = all_rows(setting[1], len(input_rows(program)))
    right = given_and_got(setting, program, inputs, watchers)
    return tuple([row for row in tries if given_and_got(setting, program, row, watchers) == right])


def count_views(setting, program, inputs, watchers):
    """Pairs (view, how many coins have it), ascending by the texts of the views."""
    views = {}
    counts = {}
    for coins in all_rows(setting[1], coins_of(setting, program)):
        one = view(setting, program, inputs, coins, watchers)
        text = repr(one)
        views[text] = one
        counts[text] = counts.get(text, 0) + 1
    return tuple([(views[text], counts[text]) for text in sorted(counts)])

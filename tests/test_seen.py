"""h1, h2 and the interface: untold/seen.py."""

import unittest

from tests.oracle import epochs_of, numbers, plain_view, some_program, some_watchers, trace
from untold.coins import coins_of
from untold.plain import values
from untold.programs import input_rows
from untold.seen import opened, shares_seen
from untold.views import view

SETTING = ("setting", 7, 3, 1)
NEXT = ("next",)
SETTINGS = [("setting", *rest) for rest in (
    (2, 1, 0), (3, 2, 0), (5, 3, 0), (5, 3, 1), (5, 4, 1), (7, 5, 2), (7, 6, 2), (11, 9, 4), (11, 9, 2), (10007, 9, 4),
)]


def program(*rows):
    return ("program", rows)


class WorkedExample(unittest.TestCase):
    rows = program(("in", 1), ("in", 2), ("product", 0, 1))

    def test_it(self):
        seen = view(SETTING, self.rows, (2, 3), (1, 2, 0, 0, 0), ((2, 3),))
        self.assertEqual(opened(SETTING, self.rows, seen, ((2, 3),)), (2, 3, 6))
        self.assertEqual(shares_seen(SETTING, self.rows, seen, ((2, 3),)), ((4, 5), (0, 2), (6, 6)))

    def test_not_more_than_t(self):
        seen = view(SETTING, self.rows, (2, 3), (1, 2, 0, 0, 0), ((3,),))
        self.assertEqual(opened(SETTING, self.rows, seen, ((3,),)), (None, None, None))
        self.assertEqual(shares_seen(SETTING, self.rows, seen, ((3,),)), ((5,), (2,), (6,)))

    def test_nobody(self):
        seen = view(SETTING, self.rows, (2, 3), (1, 2, 0, 0, 0), ((),))
        self.assertEqual(opened(SETTING, self.rows, seen, ((),)), (None, None, None))
        self.assertEqual(shares_seen(SETTING, self.rows, seen, ((),)), ((), (), ()))


class EachKind(unittest.TestCase):
    """From views that are written out here."""

    def hold(self, rows, seen, watchers, right, plain):
        self.assertEqual(shares_seen(SETTING, rows, seen, watchers), right)
        self.assertEqual(opened(SETTING, rows, seen, watchers), plain)

    def test_in(self):
        rows = program(("in", 1), ("in", 3))
        self.hold(rows, (("own", 2, (1,)), ("sent", (6,))), ((1,),), ((3,), (6,)), (None, None))
        self.hold(rows, (("own", 2, (1,)), ("sent", (5, 0))), ((1, 2),), ((3, 4), (5, 0)), (2, 3))
        self.hold(rows, (("sent", (4, 5)), ("own", 3, (2,))), ((2, 3),), ((4, 5), (0, 2)), (2, 3))

    def test_rows_that_each_reckons_for_itself(self):
        rows = program(("const", 3), ("in", 1), ("sum", 0, 1), ("less", 0, 1), ("times", 2, 1), ("out", 1, 1))
        seen = ((), ("sent", (4,)), (), (), (), ())
        self.hold(rows, seen, ((2,),), ((3,), (4,), (0,), (6,), (1,), None), (None,) * 6)
        seen = ((), ("sent", (4, 5)), (), (), (), ())
        self.hold(rows, seen, ((2, 3),), ((3, 3), (4, 5), (0, 1), (6, 5), (1, 3), None), (3, 2, 5, 1, 4, None))

    def test_product(self):
        # The parties deal (1, 4), (1, 5) and (1, 1): their values are 5, 2, 6; 6, 4, 2; and 2, 3, 4. With the
        # weights 3, 4, 1 the shares are 6, 4, 2.
        rows = program(("const", 1), ("product", 0, 0))
        self.hold(rows, ((), ((4,), (6,), (2,))), ((1,),), ((1,), (6,)), (None, None))
        self.hold(rows, ((), ((2,), (5,), (3,))), ((2,),), ((1,), (4,)), (None, None))
        self.hold(rows, ((), ((4,), (6, 2), (1,))), ((1, 3),), ((1, 1), (6, 2)), (1, 1))
        self.hold(rows, ((), ((2, 6), (5,), (1,))), ((2, 3),), ((1, 1), (4, 2)), (1, 1))
        self.hold(rows, ((), ((4,), (5,), (1,))), ((1, 2, 3),), ((1, 1, 1), (6, 4, 2)), (1, 1))
        self.hold(rows, ((), ((), (), ())), ((),), ((), ()), (None, None))

    def test_kept_and_next(self):
        rows = program(("in", 1), NEXT, ("kept", 0), ("sum", 2, 2))
        seen = (("sent", (5,)), (), (((), (), ()), (1, 0)), ())
        self.hold(rows, seen, ((3,), (1, 2)), ((5,), None, (1, 0), (2, 0)), (None, None, 2, 4))
        seen = (("sent", (4, 5)), (), (((), (), ()), (1,)), ())
        self.hold(rows, seen, ((2, 3), (1,)), ((4, 5), None, (1,), (2,)), (2, None, None, None))


class Reckoned(unittest.TestCase):
    def hold(self, setting, rows, seed, watchers):
        """What is reckoned from the view alone is what the run has."""
        inputs = numbers(seed, setting[1], len(input_rows(rows)))
        coins = numbers(seed + 11, setting[1], coins_of(setting, rows))
        seen = plain_view(setting, rows, inputs, coins, watchers)
        shares, plain = [], []
        steps = trace(setting, rows, inputs, coins)
        for step, epoch, value in zip(steps, epochs_of(rows), values(setting, rows, inputs)):
            watched = watchers[epoch]
            shares.append(None if value is None else tuple(step["shares"][j - 1] for j in watched))
            plain.append(value if len(watched) > setting[3] else None)
        self.assertEqual(shares_seen(setting, rows, seen, watchers), tuple(shares), (setting, rows, watchers))
        self.assertEqual(opened(setting, rows, seen, watchers), tuple(plain), (setting, rows, watchers))

    def test_at_most_t(self):
        for setting in SETTINGS:
            for seed in range(30):
                rows = some_program(seed, setting, 5 + seed % 20)
                self.hold(setting, rows, seed, some_watchers(seed, setting, rows, setting[3]))

    def test_more_in_some_epochs(self):
        for setting in SETTINGS:
            for seed in range(60):
                rows = some_program(seed, setting, 5 + seed % 20)
                self.hold(setting, rows, seed, some_watchers(seed, setting, rows, setting[2]))

    def test_everybody(self):
        for setting in SETTINGS:
            rows = some_program(5, setting, 20)
            self.hold(setting, rows, 5, (tuple(range(1, setting[2] + 1)),) * (1 + epochs_of(rows)[-1]))

    def test_just_more_than_t_behind_rows_kept(self):
        rows = program(
            ("in", 1), ("product", 0, 0), NEXT, ("kept", 1), ("in", 2), ("product", 3, 4), ("less", 5, 3), NEXT,
            ("kept", 6), ("product", 8, 8), ("times", 3, 9), ("out", 10, 2),
        )
        some = ((), (1,), (2, 3), (1, 3), (1, 2, 3))
        for seed, watchers in enumerate((a, b, c) for a in some for b in some for c in some):
            self.hold(SETTING, rows, seed, watchers)

    def test_t_0(self):
        # Where t is 0 one party knows all of its epoch.
        rows = program(("in", 1), ("product", 0, 0), NEXT, ("kept", 1), ("out", 3, 2))
        setting = ("setting", 7, 3, 0)
        seen = view(setting, rows, (3,), (), ((), (2,)))
        self.assertEqual(opened(setting, rows, seen, ((), (2,))), (None, None, None, 2, None))
        seen = view(setting, rows, (3,), (), ((3,), ()))
        self.assertEqual(opened(setting, rows, seen, ((3,), ())), (3, 2, None, None, None))


class FromTheViewAlone(unittest.TestCase):
    def test_the_same_view_the_same_answers(self):
        # Two runs with other inputs and coins, which party 3 can not tell apart.
        rows = program(("in", 1), ("in", 2), ("product", 0, 1), ("out", 2, 3))
        one = view(SETTING, rows, (2, 3), (1, 2, 0, 0, 0), ((3,),))
        other = view(SETTING, rows, (1, 6), (6, 1, 5, 5, 0), ((3,),))
        self.assertEqual(one, other)
        self.assertEqual(shares_seen(SETTING, rows, one, ((3,),)), ((5,), (2,), (6,), None))

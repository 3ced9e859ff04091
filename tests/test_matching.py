"""m1, m2, m3 and the interface: untold/matching.py."""

import unittest
from itertools import product

from tests.oracle import (
    choices, numbers, plain_matched, plain_value, similar_inputs, some_program, some_watchers,
)
from untold.coins import coins_of
from untold.errors import BadState
from untold.matching import matched
from untold.programs import input_rows
from untold.runs import polys_of, run
from untold.views import agree, view

SETTING = ("setting", 7, 3, 1)
NEXT = ("next",)
SETTINGS = [("setting", *rest) for rest in (
    (2, 1, 0), (3, 2, 0), (5, 3, 0), (5, 3, 1), (5, 4, 1), (7, 5, 2), (7, 6, 2), (11, 7, 3), (11, 9, 4), (11, 9, 2),
    (10007, 9, 4),
)]


def program(*rows):
    return ("program", rows)


class WorkedExample(unittest.TestCase):
    rows = program(("in", 1), ("in", 2), ("product", 0, 1), ("out", 2, 3))

    def test_it(self):
        coins = (1, 2, 0, 0, 0)
        other = matched(SETTING, self.rows, (2, 3), (4, 5), coins, ((3,),))
        self.assertNotEqual(other, coins)
        self.assertEqual(view(SETTING, self.rows, (2, 3), coins, ((3,),)),
                         view(SETTING, self.rows, (4, 5), other, ((3,),)))

    def test_by_hand(self):
        # The veil of party 3 is (1, 2), at the parties 3, 5, 0. The inputs are 1 less and 3 more, so the coins of
        # the rows in get -1 * 2 and 3 * 2. The shares 3, 4, 5 and 5, 0, 2 become 0, 6, 5 and 0, 1, 2, and their
        # products 1, 0, 3 become 0, 6, 3, so the coins of the parties 1 and 2 get -1 * 2 and 6 * 2.
        other = matched(SETTING, self.rows, (2, 3), (1, 6), (1, 2, 0, 0, 0), ((3,),))
        self.assertEqual(other, (6, 1, 5, 5, 0))

    def test_a_row_kept_by_hand(self):
        # The veils are (1, 6) with 1 watched and (1, 2) with 3 watched; 2 is the least on neither side of the mark,
        # but party 1 is not on both, so its coin gets 1 * (2 - 6), and the coin of the row in gets 1 * 6.
        rows = program(("in", 2), NEXT, ("kept", 0))
        self.assertEqual(matched(SETTING, rows, (2,), (3,), (1, 2, 3, 4), ((1,), (3,))), (0, 5, 3, 4))
        # With 1 watched on both sides nothing turns; with 1 leaving for nobody, party 1 fills up the other side.
        self.assertEqual(matched(SETTING, rows, (2,), (3,), (1, 2, 3, 4), ((1,), (1,))), (0, 2, 3, 4))
        self.assertEqual(matched(SETTING, rows, (2,), (3,), (1, 2, 3, 4), ((1,), ())), (0, 2, 3, 4))
        # With 3 and then 1 watched the turn is the other way, and with 1 on both sides it would be party 2's.
        self.assertEqual(matched(SETTING, rows, (2,), (3,), (1, 2, 3, 4), ((3,), (1,))), (3, 6, 3, 4))

    def test_the_least_party_that_is_not_watched_on_both_sides(self):
        setting = ("setting", 7, 5, 2)
        rows = program(("in", 4), NEXT, ("kept", 0))
        coins = (0,) * 12
        for watchers, party in (
            (((1, 2), (1, 3)), 2), (((1, 2), (2, 3)), 1), (((2, 3), (1, 3)), 1), (((1,), (1, 3)), 2),
        ):
            other = matched(setting, rows, (2,), (3,), coins, watchers)
            self.assertEqual([i for i in range(1, 6) if any(other[2 * i:2 * i + 2])], [party], watchers)


class ByTheWords(unittest.TestCase):
    def hold(self, setting, rows, first, second, coins, watchers):
        right = plain_matched(setting, rows, first, second, coins, watchers)
        answer = matched(setting, rows, first, second, coins, watchers)
        self.assertEqual(answer, right, (setting, rows, first, second, watchers))
        self.assertIsInstance(answer, tuple)

    def test_each_kind(self):
        rows = program(
            ("in", 1), ("in", 2), ("const", 3), ("sum", 0, 2), ("product", 3, 1), NEXT, ("kept", 4), ("kept", 0),
            ("in", 3), ("product", 6, 8), ("times", 2, 9), ("less", 10, 6), ("out", 11, 3),
        )
        for watchers in product(choices((1, 2, 3), 1), repeat=2):
            first, coins = (2, 3, 5), numbers(7, 7, coins_of(SETTING, rows))
            for second in similar_inputs(SETTING, rows, first, watchers):
                self.hold(SETTING, rows, first, second, coins, watchers)

    def test_some_programs(self):
        for setting in SETTINGS:
            for seed in range(25):
                rows = some_program(seed, setting, 5 + seed % 12)
                watchers = some_watchers(seed, setting, rows, setting[3])
                first = numbers(seed, setting[1], len(input_rows(rows)))
                coins = numbers(seed + 3, setting[1], coins_of(setting, rows))
                for second in similar_inputs(setting, rows, first, watchers)[:6]:
                    self.hold(setting, rows, first, second, coins, watchers)


class MainTheorem(unittest.TestCase):
    def hold(self, setting, rows, first, second, coins, watchers):
        """Behind the matching the view is the same, and matched back the coins are the old ones; the other coins."""
        other = matched(setting, rows, first, second, coins, watchers)
        seen = view(setting, rows, first, coins, watchers)
        self.assertEqual(view(setting, rows, second, other, watchers), seen, (setting, rows, first, second, watchers))
        self.assertEqual(matched(setting, rows, second, first, other, watchers), coins)
        self.assertEqual(len(other), len(coins))
        self.assertTrue(all(0 <= number < setting[1] for number in other))
        return other

    def test_all_coins_one_to_one(self):
        setting = ("setting", 5, 3, 1)
        rows = program(("in", 1), ("product", 0, 0), ("out", 1, 3))
        for watched in ((), (2,), (3,)):
            for first, second in ((1, 4), (2, 3), (4, 1)):
                found = set()
                for coins in product(range(5), repeat=4):
                    found.add(self.hold(setting, rows, (first,), (second,), coins, (watched,)))
                self.assertEqual(len(found), 5 ** 4)

    def test_all_coins_over_a_mark(self):
        setting = ("setting", 5, 3, 1)
        rows = program(("in", 1), NEXT, ("kept", 0), ("out", 2, 1))
        for watchers in (((), ()), ((2,), ()), ((), (3,)), ((2,), (3,)), ((2,), (2,)), ((3,), (2,))):
            found = set()
            for coins in product(range(5), repeat=4):
                found.add(self.hold(setting, rows, (1,), (3,), coins, watchers))
            self.assertEqual(len(found), 5 ** 4)

    def test_all_agreeing_inputs(self):
        rows = program(("in", 1), ("in", 2), ("in", 3), ("product", 0, 1), ("sum", 3, 2), ("out", 4, 2))
        for watched in choices((1, 2, 3), 1):
            for first in ((0, 0, 0), (1, 2, 3), (6, 5, 1)):
                coins = numbers(sum(first), 7, coins_of(SETTING, rows))
                many = 0
                for second in product(range(7), repeat=3):
                    if agree(SETTING, rows, first, second, (watched,)):
                        many += 1
                        self.hold(SETTING, rows, first, second, coins, (watched,))
                self.assertGreaterEqual(many, 7)

    def test_some_programs_with_watchers_who_move(self):
        others = 0
        for setting in SETTINGS:
            for seed in range(60):
                rows = some_program(seed + 100, setting, 5 + seed % 20)
                watchers = some_watchers(seed, setting, rows, setting[3])
                first = numbers(seed, setting[1], len(input_rows(rows)))
                coins = numbers(seed + 9, setting[1], coins_of(setting, rows))
                for second in similar_inputs(setting, rows, first, watchers)[:8]:
                    others += second != first
                    self.hold(setting, rows, first, second, coins, watchers)
        self.assertGreater(others, 500)

    def test_each_way_to_move(self):
        rows = program(
            ("in", 1), ("in", 4), ("product", 0, 1), NEXT, ("kept", 2), ("kept", 0), ("product", 4, 5), NEXT,
            ("kept", 6), ("kept", 4), ("less", 8, 9), ("out", 10, 5),
        )
        setting = ("setting", 7, 5, 2)
        coins = numbers(1, 7, coins_of(setting, rows))
        moves = choices((1, 2, 3, 5), 2)
        for watchers in product(moves, moves, ((), (1, 2), (2, 3), (4,))):
            for second in similar_inputs(setting, rows, (3, 4), watchers)[:3]:
                self.hold(setting, rows, (3, 4), second, coins, watchers)

    def test_one_epoch_alone_gives_away_nothing_of_others(self):
        # Party 1 is watched behind the mark, where its input ahead of it is no longer asked for.
        rows = program(("in", 1), ("in", 2), ("sum", 0, 1), NEXT, ("kept", 2), ("out", 4, 1))
        watchers = ((3,), (1,))
        coins = numbers(2, 7, coins_of(SETTING, rows))
        for first in product(range(7), repeat=2):
            for step in range(7):
                second = ((first[0] + step) % 7, (first[1] - step) % 7)
                self.assertTrue(agree(SETTING, rows, first, second, watchers))
                self.hold(SETTING, rows, first, second, coins, watchers)

    def test_the_polynomials_of_the_matched_run(self):
        # The one of each wire is the old one and its gap times the veil.
        for setting in SETTINGS:
            p = setting[1]
            for seed in range(10):
                rows = some_program(seed, setting, 14)
                watchers = some_watchers(seed, setting, rows, setting[3])
                first = numbers(seed, p, len(input_rows(rows)))
                coins = numbers(seed, p, coins_of(setting, rows))
                for second in similar_inputs(setting, rows, first, watchers)[-2:]:
                    other = matched(setting, rows, first, second, coins, watchers)
                    old = polys_of(setting, run(setting, rows, first, coins))
                    new = polys_of(setting, run(setting, rows, second, other))
                    epoch = 0
                    for row, before, after in zip(rows[1], old, new):
                        epoch += row == NEXT
                        for i in watchers[epoch] if before is not None else ():
                            self.assertEqual(plain_value(p, before, i), plain_value(p, after, i))


class BadStates(unittest.TestCase):
    def refuse(self, setting, rows, first, second, watchers):
        coins = numbers(4, setting[1], coins_of(setting, rows))
        with self.assertRaises(BadState) as caught:
            matched(setting, rows, first, second, coins, watchers)
        self.assertIs(caught.exception.__class__, BadState)

    def test_an_input_of_a_watched_party(self):
        rows = program(("in", 1), ("in", 2), ("product", 0, 1))
        self.refuse(SETTING, rows, (2, 3), (1, 3), ((1,),))
        self.refuse(SETTING, rows, (2, 3), (2, 4), ((2,),))

    def test_what_is_shown_to_a_watched_party(self):
        rows = program(("in", 1), ("in", 2), ("product", 0, 1), ("out", 2, 3))
        self.refuse(SETTING, rows, (2, 3), (2, 4), ((3,),))

    def test_in_a_later_epoch(self):
        rows = program(("in", 1), NEXT, ("kept", 0), ("in", 1), ("out", 2, 3))
        self.refuse(SETTING, rows, (2, 3), (3, 3), ((), (3,)))
        self.refuse(SETTING, rows, (2, 3), (2, 4), ((), (1,)))
        self.refuse(SETTING, rows, (2, 3), (3, 3), ((1,), ()))

    def test_just_where_the_inputs_do_not_agree(self):
        refused = 0
        for setting in SETTINGS:
            for seed in range(30):
                rows = some_program(seed, setting, 12)
                watchers = some_watchers(seed, setting, rows, setting[3])
                many = len(input_rows(rows))
                first, second = numbers(seed, setting[1], many), numbers(seed + 1, setting[1], many)
                if agree(setting, rows, first, second, watchers):
                    matched(setting, rows, first, second, (0,) * coins_of(setting, rows), watchers)
                else:
                    refused += 1
                    self.refuse(setting, rows, first, second, watchers)
        self.assertGreater(refused, 20)

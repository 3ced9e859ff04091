"""b1 to b5 and the interface: untold/triples.py."""

import unittest
from itertools import product

from tests.oracle import (
    choices, numbers, plain_matched, plain_value, plain_view, similar_inputs, some_program, some_watchers, trace,
)
from untold.coins import coins_of, places
from untold.errors import BadState
from untold.plain import values
from untold.programs import input_rows
from untold.runs import polys_of, run
from untold.triples import triple_coins_of, triple_matched, triple_places, triple_run, triple_view
from untold.views import agree, view

SETTING = ("setting", 7, 3, 1)
NEXT = ("next",)
SETTINGS = [("setting", *rest) for rest in (
    (2, 1, 0), (3, 2, 0), (5, 3, 0), (5, 3, 1), (5, 4, 1), (7, 5, 2), (7, 6, 2), (11, 7, 3), (11, 9, 4), (11, 9, 2),
    (10007, 9, 4),
)]
WITHOUT_PRODUCTS = ("program", (
    ("in", 1), ("in", 2), ("const", 3), ("sum", 0, 1), ("less", 3, 2), ("out", 4, 3), NEXT, ("kept", 4),
    ("times", 2, 7),
))


def program(*rows):
    return ("program", rows)


def some_run(seed, setting):
    """A program with inputs and triple coins that fit it."""
    rows = some_program(seed, setting, 4 + seed % 17)
    inputs = numbers(seed, setting[1], len(input_rows(rows)))
    return rows, inputs, numbers(seed + 500, setting[1], triple_coins_of(setting, rows))


class Places(unittest.TestCase):
    rows = program(("in", 1), ("const", 1), ("product", 0, 1), ("out", 2, 1), ("in", 2), NEXT, ("kept", 2))

    def test_each_kind(self):
        right = (
            ((0,),), (), ((1, 2), (3,), (4,), (5,)), (), ((6,),), (), ((7,), (8,), (9,)),
        )
        self.assertEqual(triple_places(SETTING, self.rows), right)
        self.assertEqual(triple_coins_of(SETTING, self.rows), 10)

    def test_more_coins_for_each(self):
        right = (((0, 1),), ((2, 3), (4, 5), (6, 7), (8, 9)), ((10, 11), (12, 13), (14, 15), (16, 17)))
        rows = program(("in", 1), ("product", 0, 0), ("product", 1, 0))
        self.assertEqual(triple_places(("setting", 7, 5, 2), rows), right)
        self.assertEqual(triple_coins_of(("setting", 7, 5, 2), rows), 18)

    def test_t_0(self):
        rows = program(("in", 1), ("product", 0, 0), NEXT, ("kept", 1))
        right = (((),), ((0, 1), (), (), ()), (), ((), (), ()))
        self.assertEqual(triple_places(("setting", 7, 3, 0), rows), right)
        self.assertEqual(triple_coins_of(("setting", 7, 3, 0), rows), 2)

    def test_without_products_as_places(self):
        for setting in SETTINGS[1:]:
            self.assertEqual(triple_places(setting, WITHOUT_PRODUCTS), places(setting, WITHOUT_PRODUCTS))
            self.assertEqual(triple_coins_of(setting, WITHOUT_PRODUCTS), coins_of(setting, WITHOUT_PRODUCTS))

    def test_the_places_stand_one_behind_the_other(self):
        for setting in SETTINGS:
            _, _, n, t = setting
            for seed in range(20):
                rows = some_program(seed, setting, 15)
                found = triple_places(setting, rows)
                flat = [place for parts in found for part in parts for place in part]
                self.assertEqual(flat, list(range(triple_coins_of(setting, rows))))
                sizes = {"in": [t], "product": [2, t, t, t], "kept": [t] * n}
                right = [sizes.get(row[0], []) for row in rows[1]]
                self.assertEqual([[len(part) for part in parts] for parts in found], right)


class EachKind(unittest.TestCase):
    def test_product_by_hand(self):
        # The shares of 2 with the coin 1 are 3, 4, 5, of 3 with the coin 2 they are 5, 0, 2. With x = 4 and the coin 3
        # x has 0, 3, 6; with y = 6 and the coin 5 it has 4, 2, 0; their product 3 with the coin 1 has 4, 5, 6.
        # a less x is 3, 1, 6, read as 5; b less y is 1, 5, 2, read as 4; 5 * 4 is 6.
        rows = program(("in", 1), ("in", 2), ("product", 0, 1), ("out", 2, 3))
        coins = (1, 2, 4, 6, 3, 5, 1)
        right = tuple((xy + 5 * y + 4 * x + 6) % 7 for x, y, xy in ((0, 4, 4), (3, 2, 5), (6, 0, 6)))
        found = triple_run(SETTING, rows, (2, 3), coins)
        self.assertEqual(found, ((3, 4, 5), (5, 0, 2), right, None))
        self.assertEqual(polys_of(SETTING, found)[2][0], 6)
        told = ((3, 1, 6), (1, 5, 2))
        for watched, seen in (
            ((), ()), ((1,), ((0,), (4,), (4,), *told)), ((2,), ((3,), (2,), (5,), *told)),
            ((1, 3), ((0, 6), (4, 0), (4, 6), *told)),
        ):
            self.assertEqual(triple_view(SETTING, rows, (2, 3), coins, (watched,))[2], seen)

    def test_without_products_as_run_and_view(self):
        for setting in SETTINGS[1:]:
            p = setting[1]
            coins = numbers(3, p, coins_of(setting, WITHOUT_PRODUCTS))
            inputs = numbers(4, p, 2)
            right = run(setting, WITHOUT_PRODUCTS, inputs, coins)
            self.assertEqual(triple_run(setting, WITHOUT_PRODUCTS, inputs, coins), right)
            for seed in range(10):
                watchers = some_watchers(seed, setting, WITHOUT_PRODUCTS, setting[3])
                right = view(setting, WITHOUT_PRODUCTS, inputs, coins, watchers)
                self.assertEqual(triple_view(setting, WITHOUT_PRODUCTS, inputs, coins, watchers), right)


class Runs(unittest.TestCase):
    def test_the_words_of_the_document(self):
        for setting in SETTINGS:
            for seed in range(40):
                rows, inputs, coins = some_run(seed, setting)
                right = tuple(step["shares"] for step in trace(setting, rows, inputs, coins, triples=True))
                self.assertEqual(triple_run(setting, rows, inputs, coins), right, (setting, rows))

    def test_the_plain_values_at_0(self):
        for setting in SETTINGS:
            _, p, n, t = setting
            for seed in range(40):
                rows, inputs, coins = some_run(seed, setting)
                found = triple_run(setting, rows, inputs, coins)
                for poly, value, row in zip(polys_of(setting, found), values(setting, rows, inputs), found):
                    self.assertEqual(poly is None, value is None)
                    if value is not None:
                        self.assertEqual((len(poly), poly[0]), (t + 1, value), (setting, rows))
                        self.assertEqual(row, tuple(plain_value(p, poly, j) for j in range(1, n + 1)))

    def test_whatever_the_coins(self):
        setting = ("setting", 3, 2, 0)
        rows = program(("in", 1), ("in", 2), ("product", 0, 1), ("product", 2, 0))
        for a, b in product(range(3), repeat=2):
            for coins in product(range(3), repeat=4):
                right = ((a, a), (b, b), (a * b % 3,) * 2, (a * a * b % 3,) * 2)
                self.assertEqual(triple_run(setting, rows, (a, b), coins), right)

    def test_p_2(self):
        rows = program(("in", 1), ("in", 1), ("product", 0, 1))
        for a, b, x, y in product(range(2), repeat=4):
            self.assertEqual(triple_run(("setting", 2, 1, 0), rows, (a, b), (x, y)), ((a,), (b,), (a * b,)))


class Views(unittest.TestCase):
    def hold(self, setting, seed, watchers=None):
        rows, inputs, coins = some_run(seed, setting)
        if watchers is None:
            watchers = some_watchers(seed, setting, rows, setting[3])
        else:
            watchers = (watchers,) * (1 + sum(row == NEXT for row in rows[1]))
        right = plain_view(setting, rows, inputs, coins, watchers, triples=True)
        self.assertEqual(triple_view(setting, rows, inputs, coins, watchers), right, (setting, rows, watchers))

    def test_the_words_of_the_document(self):
        for setting in SETTINGS:
            for seed in range(60):
                self.hold(setting, seed)

    def test_nobody_watched(self):
        for setting in SETTINGS:
            for seed in range(20):
                self.hold(setting, seed, ())
        rows = program(("in", 1), ("product", 0, 0), ("out", 1, 2))
        self.assertEqual(triple_view(SETTING, rows, (2,), (1,) * 6, ((),)), (("sent", ()), (), ()))

    def test_watched_in_one_epoch_alone(self):
        rows = program(("const", 1), ("product", 0, 0), NEXT, ("const", 2), ("product", 3, 3))
        coins = (0,) * 10
        full = ((0,), (0,), (0,))
        found = triple_view(SETTING, rows, (), coins, ((), (2,)))
        self.assertEqual(found, ((), (), (), (), (*full, (2, 2, 2), (2, 2, 2))))
        found = triple_view(SETTING, rows, (), coins, ((2,), ()))
        self.assertEqual(found, ((), (*full, (1, 1, 1), (1, 1, 1)), (), (), ()))


class Matched(unittest.TestCase):
    def hold(self, setting, rows, first, second, coins, watchers):
        """The matching is the told one, the view behind it is the same, and matched back the coins are the old ones."""
        other = triple_matched(setting, rows, first, second, coins, watchers)
        right = plain_matched(setting, rows, first, second, coins, watchers, triples=True)
        self.assertEqual(other, right, (setting, rows, first, second, watchers))
        seen = triple_view(setting, rows, first, coins, watchers)
        self.assertEqual(triple_view(setting, rows, second, other, watchers), seen, (setting, rows, watchers))
        self.assertEqual(triple_matched(setting, rows, second, first, other, watchers), coins)
        return other

    def test_by_hand(self):
        # The veil of party 3 is (1, 2). The gaps are -1 and 3, so x is 3 and y is 2, of 4 and 6, and their product is
        # 6, of 3; the coins get -1 * 2, 3 * 2, and 3 * 2.
        rows = program(("in", 1), ("in", 2), ("product", 0, 1), ("out", 2, 3))
        other = self.hold(SETTING, rows, (2, 3), (1, 6), (1, 2, 4, 6, 3, 5, 1), ((3,),))
        self.assertEqual(other, (6, 1, 3, 2, 1, 4, 0))

    def test_all_coins_one_to_one(self):
        setting = ("setting", 3, 2, 0)
        rows = program(("in", 1), ("product", 0, 0), ("product", 0, 0), ("out", 1, 1))
        found = {self.hold(setting, rows, (1,), (2,), coins, ((),)) for coins in product(range(3), repeat=4)}
        self.assertEqual(len(found), 81)

    def test_many_coins_one_to_one(self):
        setting = ("setting", 5, 3, 1)
        rows = program(("in", 1), ("product", 0, 0), ("out", 1, 3))
        for watched in ((), (2,), (3,)):
            found = {self.hold(setting, rows, (1,), (4,), (2, *coins, 3), (watched,))
                     for coins in product(range(5), repeat=4)}
            self.assertEqual(len(found), 625)

    def test_each_way_to_move(self):
        rows = program(
            ("in", 1), ("in", 4), ("product", 0, 1), NEXT, ("kept", 2), ("kept", 0), ("product", 4, 5), NEXT,
            ("kept", 6), ("kept", 4), ("less", 8, 9), ("out", 10, 5),
        )
        setting = ("setting", 7, 5, 2)
        coins = numbers(1, 7, triple_coins_of(setting, rows))
        moves = choices((1, 2, 3, 5), 2)
        for watchers in product(moves, moves, ((), (1, 2), (2, 3), (4,))):
            for second in similar_inputs(setting, rows, (3, 4), watchers)[:3]:
                self.hold(setting, rows, (3, 4), second, coins, watchers)

    def test_some_programs_with_watchers_who_move(self):
        others = 0
        for setting in SETTINGS:
            for seed in range(60):
                rows, first, coins = some_run(seed + 100, setting)
                watchers = some_watchers(seed, setting, rows, setting[3])
                for second in similar_inputs(setting, rows, first, watchers)[:8]:
                    others += second != first
                    self.hold(setting, rows, first, second, coins, watchers)
        self.assertGreater(others, 500)


class BadStates(unittest.TestCase):
    def refuse(self, setting, rows, first, second, watchers):
        coins = numbers(4, setting[1], triple_coins_of(setting, rows))
        with self.assertRaises(BadState) as caught:
            triple_matched(setting, rows, first, second, coins, watchers)
        self.assertIs(caught.exception.__class__, BadState)

    def test_inputs_and_what_is_shown(self):
        rows = program(("in", 1), ("in", 2), ("product", 0, 1), ("out", 2, 3))
        self.refuse(SETTING, rows, (2, 3), (1, 6), ((1,),))
        self.refuse(SETTING, rows, (2, 3), (1, 6), ((2,),))
        self.refuse(SETTING, rows, (2, 3), (2, 4), ((3,),))

    def test_just_where_the_inputs_do_not_agree(self):
        refused = 0
        for setting in SETTINGS:
            for seed in range(30):
                rows, first, coins = some_run(seed, setting)
                watchers = some_watchers(seed, setting, rows, setting[3])
                second = numbers(seed + 1, setting[1], len(first))
                if agree(setting, rows, first, second, watchers):
                    triple_matched(setting, rows, first, second, coins, watchers)
                else:
                    refused += 1
                    self.refuse(setting, rows, first, second, watchers)
        self.assertGreater(refused, 20)

"""c2, c3, c4 as far as what is sent goes, and the interface: untold/runs.py."""

import unittest
from itertools import product

from tests.oracle import numbers, plain_value, some_program, trace
from untold.coins import coins_of
from untold.plain import values
from untold.programs import check_program, input_rows
from untold.runs import polys_of, run, sent

SETTINGS = [("setting", *rest) for rest in (
    (2, 1, 0), (3, 1, 0), (3, 2, 0), (5, 3, 1), (5, 4, 0), (5, 4, 1), (7, 5, 2), (7, 6, 1), (11, 7, 3), (11, 9, 4),
    (10007, 9, 4), (10007, 8, 2),
)]
SETTING = ("setting", 7, 3, 1)


def program(*rows):
    return ("program", rows)


def some_run(seed, setting):
    """A program with inputs and coins that fit it."""
    rows = some_program(seed, setting, 4 + seed % 17)
    inputs = numbers(seed, setting[1], len(input_rows(rows)))
    return rows, inputs, numbers(seed + 500, setting[1], coins_of(setting, rows))


class WorkedExample(unittest.TestCase):
    def test_it(self):
        rows = program(("in", 1), ("in", 2), ("product", 0, 1), ("out", 2, 3))
        coins = (1, 2, 0, 0, 0)
        found = run(SETTING, rows, (2, 3), coins)
        self.assertEqual(found[0], (3, 4, 5))
        self.assertEqual(found, ((3, 4, 5), (5, 0, 2), (6, 6, 6), None))
        self.assertEqual(sent(SETTING, rows, (2, 3), coins), ((3, 3, (6, 6, 6)),))
        self.assertEqual(polys_of(SETTING, found), ((2, 1), (3, 2), (6, 0), None))


class EachKind(unittest.TestCase):
    """All reckoned by hand: 3 parties, 1 may be watched, numbers below 7; the weights of 1, 2, 3 for 0 are 3, 4, 1."""

    def hold(self, rows, inputs, coins, right):
        self.assertIsNone(check_program(SETTING, rows))
        self.assertEqual(run(SETTING, rows, inputs, coins), right)

    def test_in(self):
        self.hold(program(("in", 2)), (5,), (3,), ((1, 4, 0),))
        self.hold(program(("in", 2), ("in", 2)), (5, 0), (3, 6), ((1, 4, 0), (6, 5, 4)))

    def test_const(self):
        self.hold(program(("const", 4)), (), (), ((4, 4, 4),))
        self.assertEqual(polys_of(SETTING, ((4, 4, 4),)), ((4, 0),))

    def test_sum_less_times(self):
        rows = program(("in", 1), ("in", 3), ("sum", 0, 1), ("less", 0, 1), ("less", 1, 0), ("times", 3, 1))
        shares = ((3, 4, 5), (5, 0, 2), (1, 4, 0), (5, 4, 3), (2, 3, 4), (1, 0, 6))
        self.hold(rows, (2, 3), (1, 2), shares)

    def test_product(self):
        # The products of the shares are 1, 0, 3; with the coins 1, 2, 5 the parties deal 2, 3, 4 and 2, 4, 6 and
        # 1, 6, 4.
        rows = program(("in", 1), ("in", 2), ("product", 0, 1))
        self.hold(rows, (2, 3), (1, 2, 1, 2, 5), ((3, 4, 5), (5, 0, 2), (1, 3, 5)))

    def test_kept(self):
        # The parties deal (1, 2, 3), (4, 1, 5) and (0, 0, 0), which are 0 at 0.
        rows = program(("in", 1), ("next",), ("kept", 0))
        self.hold(rows, (2,), (1, 1, 4, 0), ((3, 4, 5), None, (1, 0, 6)))

    def test_rows_without_a_wire(self):
        self.hold(program(("const", 1), ("out", 0, 1), ("next",)), (), (), ((1, 1, 1), None, None))
        self.assertEqual(polys_of(SETTING, ((1, 1, 1), None, None)), ((1, 0), None, None))

    def test_the_coins_of_a_product_stay_with_their_parties(self):
        rows = program(("const", 1), ("product", 0, 0))
        # A coin c of party i adds w_i times c j to the share of party j.
        for party, weight in enumerate((3, 4, 1), start=1):
            coins = tuple(1 if party == other else 0 for other in (1, 2, 3))
            right = tuple((1 + weight * j) % 7 for j in (1, 2, 3))
            self.hold(rows, (), coins, ((1, 1, 1), right))


class Runs(unittest.TestCase):
    def test_the_words_of_the_document(self):
        for setting in SETTINGS:
            for seed in range(40):
                rows, inputs, coins = some_run(seed, setting)
                self.assertIsNone(check_program(setting, rows))
                right = tuple(step["shares"] for step in trace(setting, rows, inputs, coins))
                self.assertEqual(run(setting, rows, inputs, coins), right, (setting, rows, inputs, coins))

    def test_the_seeds_bring_all_that_is_to_be_tested(self):
        seen = [some_program(seed, SETTING, 4 + seed % 17)[1] for seed in range(40)]
        words = {row[0] for rows in seen for row in rows}
        self.assertEqual(len(words), 9)
        self.assertTrue(any(sum(row[0] == "next" for row in rows) > 1 for rows in seen))

    def test_the_polynomials(self):
        for setting in SETTINGS:
            _, p, n, t = setting
            for seed in range(40):
                rows, inputs, coins = some_run(seed, setting)
                right = values(setting, rows, inputs)
                found = run(setting, rows, inputs, coins)
                for poly, value, row in zip(polys_of(setting, found), right, found):
                    if value is None:
                        self.assertIsNone(poly)
                        self.assertIsNone(row)
                        continue
                    self.assertEqual((len(poly), poly[0]), (t + 1, value), (setting, rows))
                    self.assertEqual(row, tuple(plain_value(p, poly, j) for j in range(1, n + 1)))

    def test_the_plain_value_at_0_whatever_the_coins(self):
        rows = program(("in", 2), ("product", 0, 0))
        setting = ("setting", 5, 3, 1)
        for s in range(5):
            polys = []
            for coins in product(range(5), repeat=4):
                one, two = polys_of(setting, run(setting, rows, (s,), coins))
                self.assertEqual((one, two[0]), ((s, coins[0]), s * s % 5))
                polys.append(two)
            self.assertEqual(len(set(polys)), 5)

    def test_a_product_of_products(self):
        rows = program(("in", 1), ("product", 0, 0), ("product", 1, 1), ("product", 2, 1), ("out", 3, 1))
        for setting in SETTINGS:
            p = setting[1]
            for seed in range(10):
                coins = numbers(seed, p, coins_of(setting, rows))
                poly = polys_of(setting, run(setting, rows, (seed % p,), coins))[3]
                self.assertEqual(poly[0], pow(seed % p, 6, p))

    def test_rows_kept_over_one_mark_and_over_several(self):
        rows = program(
            ("in", 1), ("next",), ("kept", 0), ("kept", 0), ("next",), ("kept", 2), ("next",), ("kept", 5), ("next",),
            ("next",), ("const", 1),
        )
        for setting in SETTINGS:
            p = setting[1]
            coins = numbers(3, p, coins_of(setting, rows))
            polys = polys_of(setting, run(setting, rows, (p - 1,), coins))
            self.assertEqual([polys[k][0] for k in (0, 2, 3, 5, 7)], [p - 1] * 5)
            if setting[3] > 1:
                self.assertEqual(len({polys[k] for k in (0, 2, 3, 5, 7)}), 5)

    def test_t_0(self):
        rows = program(("in", 1), ("product", 0, 0), ("next",), ("kept", 1), ("out", 3, 1))
        self.assertEqual(run(("setting", 7, 3, 0), rows, (5,), ()), ((5,) * 3, (4,) * 3, None, (4,) * 3, None))
        self.assertEqual(polys_of(("setting", 7, 3, 0), ((5,) * 3, None)), ((5,), None))
        self.assertEqual(sent(("setting", 7, 3, 0), rows, (5,), ()), ((4, 1, (4,) * 3),))

    def test_p_2(self):
        rows = program(("in", 1), ("in", 1), ("product", 0, 1), ("sum", 0, 1), ("less", 0, 1), ("out", 3, 1))
        for a, b in product(range(2), repeat=2):
            right = ((a,), (b,), (a * b,), (a ^ b,), (a ^ b,), None)
            self.assertEqual(run(("setting", 2, 1, 0), rows, (a, b), ()), right)
            self.assertEqual(polys_of(("setting", 2, 1, 0), right), right)
            self.assertEqual(sent(("setting", 2, 1, 0), rows, (a, b), ()), ((5, 1, (a ^ b,)),))

    def test_the_greatest_setting(self):
        setting = ("setting", 10007, 9, 4)
        rows = program(*[("in", 9)], *[("product", k, k) for k in range(59)])
        self.assertIsNone(check_program(setting, rows))
        coins = numbers(1, 10007, coins_of(setting, rows))
        polys = polys_of(setting, run(setting, rows, (3,), coins))
        self.assertEqual([poly[0] for poly in polys], [pow(3, 2 ** k, 10007) for k in range(60)])


class Sent(unittest.TestCase):
    def test_none(self):
        self.assertEqual(sent(SETTING, program(("in", 1)), (1,), (1,)), ())

    def test_all_shares_go_to_the_party(self):
        for setting in SETTINGS:
            for seed in range(20):
                rows, inputs, coins = some_run(seed, setting)
                found = run(setting, rows, inputs, coins)
                right = tuple(
                    (k, row[2], found[row[1]]) for k, row in enumerate(rows[1]) if row[0] == "out"
                )
                self.assertEqual(sent(setting, rows, inputs, coins), right)

    def test_a_wire_shown_to_several_in_several_epochs(self):
        rows = program(("in", 1), ("out", 0, 3), ("out", 0, 1), ("next",), ("kept", 0), ("out", 4, 2))
        right = ((1, 3, (3, 4, 5)), (2, 1, (3, 4, 5)), (5, 2, (1, 0, 6)))
        self.assertEqual(sent(SETTING, rows, (2,), (1, 1, 4, 0)), right)

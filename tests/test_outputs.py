"""o1, o2, c4 and the interface: untold/outputs.py."""

import unittest
from itertools import combinations

from tests.oracle import all_polys, numbers, plain_value, some_program
from untold.coins import coins_of
from untold.outputs import read_out
from untold.plain import shown
from untold.programs import input_rows, output_rows
from untold.runs import sent

SETTINGS = [("setting", *rest) for rest in (
    (2, 1, 0), (3, 2, 0), (5, 3, 1), (5, 4, 0), (5, 4, 1), (7, 6, 1), (7, 6, 2), (11, 9, 2), (11, 9, 4), (10007, 9, 4),
)]
WIDE = ("setting", 11, 7, 2)
ROWS = ("program", (("in", 1), ("in", 2), ("product", 0, 1), ("out", 2, 3), ("out", 0, 7), ("next",), ("kept", 2),
                    ("out", 6, 1)))
COINS = numbers(8, 11, coins_of(WIDE, ROWS))


def as_read(setting, row):
    """What c4 tells of a row, by trying all polynomials."""
    _, p, n, t = setting
    for poly in all_polys(p, t + 1):
        wrong = sum(plain_value(p, poly, party) != share for party, share in enumerate(row, start=1))
        if wrong <= (n - t - 1) // 2:
            return poly[0]
    return None


class WithoutLies(unittest.TestCase):
    def test_the_plain_values(self):
        for setting in SETTINGS:
            for seed in range(15):
                rows = some_program(seed, setting, 5 + seed)
                inputs = numbers(seed, setting[1], len(input_rows(rows)))
                coins = numbers(seed + 1, setting[1], coins_of(setting, rows))
                self.assertEqual(read_out(setting, rows, inputs, coins, ()), shown(setting, rows, inputs))

    def test_no_row_out(self):
        self.assertEqual(read_out(("setting", 7, 3, 1), ("program", (("in", 1),)), (2,), (3,), ()), ())


class WithLies(unittest.TestCase):
    right = shown(WIDE, ROWS, (4, 5))

    def hold(self, right, lies):
        self.assertEqual(read_out(WIDE, ROWS, (4, 5), COINS, tuple(lies)), right, lies)

    def false_share(self, k, party, step=1):
        row = {index: row for index, _, row in sent(WIDE, ROWS, (4, 5), COINS)}[k]
        return (row[party - 1] + step) % 11

    def test_as_many_as_can_be_read_through_for_each_row(self):
        # With 7 parties and t = 2 there may be 2 for each row.
        for many in (1, 2):
            for some in combinations(range(1, 8), many):
                lies = [(k, party, self.false_share(k, party, party)) for k in output_rows(ROWS) for party in some]
                self.hold(self.right, lies)

    def test_other_parties_for_each_row(self):
        lies = []
        for k, some in ((3, (1, 2)), (4, (6, 7)), (7, (3, 5))):
            lies += [(k, party, self.false_share(k, party, 4)) for party in some]
        self.hold(self.right, lies)

    def test_some_rows_alone(self):
        self.hold(self.right, [(4, 3, self.false_share(4, 3))])
        self.hold(self.right, [(7, 7, self.false_share(7, 7))])

    def test_the_party_that_reads_may_lie_to_itself(self):
        self.hold(self.right, [(3, 3, self.false_share(3, 3)), (3, 4, self.false_share(3, 4))])

    def test_a_lie_that_is_the_share(self):
        self.hold(self.right, [(3, party, self.false_share(3, party, 0)) for party in range(1, 8)])

    def test_more_lies_and_nothing_can_be_read(self):
        lies = [(3, party, self.false_share(3, party, party)) for party in (1, 2, 3)]
        found = read_out(WIDE, ROWS, (4, 5), COINS, tuple(lies))
        self.assertEqual(found, ((3, 3, None), *self.right[1:]))

    def test_more_lies_and_another_number_is_read(self):
        # All but two parties send the share and the value of a polynomial that is 3 at 0.
        lies = [(4, party, self.false_share(4, party, 3 + party)) for party in range(1, 6)]
        (k, party, number) = self.right[1]
        self.hold((self.right[0], (k, party, (number + 3) % 11), self.right[2]), lies)

    def test_lies_about_one_row_change_no_other(self):
        lies = [(7, party, 0) for party in range(1, 8)]
        self.hold((*self.right[:2], (7, 1, 0)), lies)

    def test_a_setting_in_which_no_lie_is_read_through(self):
        setting = ("setting", 7, 3, 1)
        rows = ("program", (("in", 1), ("out", 0, 2)))
        self.assertEqual(sent(setting, rows, (2,), (1,)), ((1, 2, (3, 4, 5)),))
        self.assertEqual(read_out(setting, rows, (2,), (1,), ()), ((1, 2, 2),))
        self.assertEqual(read_out(setting, rows, (2,), (1,), ((1, 3, 6),)), ((1, 2, None),))
        self.assertEqual(read_out(setting, rows, (2,), (1,), ((1, 1, 2), (1, 3, 6))), ((1, 2, 0),))

    def test_one_party(self):
        rows = ("program", (("in", 1), ("out", 0, 1)))
        self.assertEqual(read_out(("setting", 2, 1, 0), rows, (1,), (), ()), ((1, 1, 1),))
        self.assertEqual(read_out(("setting", 2, 1, 0), rows, (1,), (), ((1, 1, 0),)), ((1, 1, 0),))

    def test_any_lies_by_the_words_of_the_document(self):
        answers = set()
        for setting in (("setting", 5, 4, 1), ("setting", 5, 4, 0), ("setting", 7, 6, 1), ("setting", 7, 5, 2)):
            _, p, n, _ = setting
            rows = ("program", (("in", 1), ("product", 0, 0), ("out", 1, 2), ("out", 0, 1)))
            for seed in range(40):
                coins = numbers(seed, p, coins_of(setting, rows))
                spots = [(k, party) for k in (2, 3) for party in range(1, n + 1)]
                flips = numbers(seed + 5, 3, len(spots))
                wrong = numbers(seed + 6, p, len(spots))
                lies = tuple((*spot, x) for spot, flip, x in zip(spots, flips, wrong) if flip == 0)
                right = []
                for k, party, row in sent(setting, rows, (seed % p,), coins):
                    heard = list(row)
                    for index, liar, number in lies:
                        if index == k:
                            heard[liar - 1] = number
                    right.append((k, party, as_read(setting, heard)))
                answers.add(right[0][2] is None)
                self.assertEqual(read_out(setting, rows, (seed % p,), coins, lies), tuple(right))
        self.assertEqual(answers, {True, False})

    def test_few_lies_for_each_setting(self):
        for setting in SETTINGS:
            _, p, n, t = setting
            rows = ("program", (("in", 1), ("out", 0, 1), ("product", 0, 0), ("out", 2, n)))
            coins = numbers(n, p, coins_of(setting, rows))
            true = {k: row for k, _, row in sent(setting, rows, (1,), coins)}
            for some in list(combinations(range(1, n + 1), (n - t - 1) // 2))[:20]:
                lies = tuple((k, party, (true[k][party - 1] + 1) % p) for k in (1, 3) for party in some)
                self.assertEqual(read_out(setting, rows, (1,), coins, lies), ((1, 1, 1), (3, n, 1)))

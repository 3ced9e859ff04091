"""k1 to k3 and the interface: untold/costs.py."""

import unittest

from tests.oracle import fresh, numbers, plain_letters, some_run
from untold.coins import coins_of
from untold.costs import chain, clock, many_letters, rounds

SETTING = ("setting", 7, 3, 1)
NEXT = ("next",)
SETTINGS = [("setting", *rest) for rest in (
    (2, 1, 0), (3, 2, 0), (5, 3, 1), (7, 3, 0), (7, 5, 2), (11, 6, 2), (11, 9, 4),
)]
EACH_KIND = ("program", (
    ("in", 1), ("in", 2), ("const", 5), ("sum", 0, 2), ("less", 3, 1), ("times", 3, 4), ("product", 5, 3),
    ("out", 6, 1), ("out", 5, 2), NEXT, ("kept", 6), ("kept", 3), ("product", 10, 11), ("out", 12, 3),
))


def in_rounds(setting, program, inputs, coins):
    """The clock and the rounds of a run, by leading it as k2 says."""
    parties = fresh(setting, program, inputs, coins)
    way = [letter for party in parties for letter in party.made]
    count, found = 0, [{} for _ in program[1]]
    while True:
        for k, row in enumerate(program[1]):
            for party in parties:
                if party.shares[k] is not None or k in dict(party.read):
                    found[k].setdefault(party.number, count)
        if not way:
            return tuple(tuple(row[i] for i in sorted(row)) for row in found), count
        way = [new for letter in way for new in parties[letter[3] - 1].take(letter)]
        count += 1


def all_made(setting, program, inputs, coins, lost):
    """The triples of all letters that are made where the lost ones never come."""
    parties = fresh(setting, program, inputs, coins)
    way = [letter for party in parties for letter in party.made]
    found = set()
    while way:
        letter = way.pop()
        found.add(letter[1:4])
        if letter[1:4] not in lost:
            way += parties[letter[3] - 1].take(letter)
    return found


class ManyLetters(unittest.TestCase):
    def test_each_kind_of_row(self):
        for n in range(1, 10):
            setting = ("setting", 11, n, 0)
            ahead = (("const", 1), NEXT, ("const", 1))
            for row, many in (
                (("in", 1), n - 1), (("out", 2, 1), n - 1), (("product", 2, 2), n * (n - 1)),
                (("kept", 0), n * (n - 1)), (("const", 3), 0), (("sum", 2, 2), 0), (("less", 2, 2), 0),
                (("times", 3, 2), 0), (NEXT, 0),
            ):
                self.assertEqual(many_letters(setting, ("program", (*ahead, row))), many)
                self.assertEqual(many_letters(setting, ("program", (*ahead, row, row))), many * 2)

    def test_they_are_the_letters_of_a_run(self):
        for setting in SETTINGS:
            for seed in range(20):
                program, inputs, coins = some_run(seed, setting, 3 + seed)
                self.assertEqual(many_letters(setting, program), len(plain_letters(setting, program, inputs, coins)))


class Clock(unittest.TestCase):
    def test_by_hand(self):
        program = ("program", (("in", 1), ("in", 2), ("product", 0, 1), ("out", 2, 3)))
        self.assertEqual(clock(SETTING, program), ((0, 1, 1), (1, 0, 1), (2, 2, 2), (3,)))
        self.assertEqual(rounds(SETTING, program), 3)

    def test_each_kind_of_row(self):
        self.assertEqual(clock(SETTING, EACH_KIND), (
            (0, 1, 1), (1, 0, 1), (0, 0, 0), (0, 1, 1), (1, 1, 1), (1, 1, 1), (2, 2, 2), (3,), (2,), (), (3, 3, 3),
            (2, 2, 2), (4, 4, 4), (5,)))
        self.assertEqual(rounds(SETTING, EACH_KIND), 5)

    def test_parties_at_different_times(self):
        program = ("program", (("in", 1), ("const", 2), ("product", 1, 1), ("product", 2, 0), ("out", 0, 1),
            ("out", 0, 2)))
        self.assertEqual(clock(SETTING, program), ((0, 1, 1), (0, 0, 0), (1, 1, 1), (2, 2, 2), (2,), (2,)))
        program = ("program", (("in", 1), ("out", 0, 2), ("product", 0, 0)))
        self.assertEqual(clock(("setting", 7, 2, 0), program), ((0, 1), (1,), (2, 1)))
        self.assertEqual(rounds(("setting", 7, 2, 0), program), 2)

    def test_at_once(self):
        program = ("program", (("const", 1), ("sum", 0, 0), ("times", 2, 1), ("less", 1, 2), NEXT))
        self.assertEqual(clock(SETTING, program), ((0, 0, 0),) * 4 + ((),))
        self.assertEqual(rounds(SETTING, program), 0)
        self.assertEqual((clock(SETTING, ("program", (NEXT,))), rounds(SETTING, ("program", (NEXT,)))), (((),), 0))

    def test_a_party_alone(self):
        program = ("program", (("in", 1), ("product", 0, 0), NEXT, ("kept", 1), ("out", 3, 1)))
        self.assertEqual(clock(("setting", 5, 1, 0), program), ((0,), (0,), (), (0,), (0,)))
        self.assertEqual(rounds(("setting", 5, 1, 0), program), 0)

    def test_a_long_row_of_products(self):
        program = ("program", (("in", 1), *[("product", k, k) for k in range(58)], ("out", 58, 2)))
        self.assertEqual(clock(SETTING, program), ((0, 1, 1), *[(k,) * 3 for k in range(2, 60)], (60,)))
        self.assertEqual(rounds(SETTING, program), 60)

    def test_runs_in_rounds(self):
        for setting in SETTINGS:
            for seed in range(30):
                program, inputs, coins = some_run(seed, setting, 3 + seed)
                right, many = in_rounds(setting, program, inputs, coins)
                self.assertEqual(clock(setting, program), right, program)
                self.assertEqual(rounds(setting, program), many, program)
                self.assertIsInstance(clock(setting, program), tuple)
                self.assertTrue(all(isinstance(row, tuple) for row in clock(setting, program)))


class Chain(unittest.TestCase):
    def hold(self, setting, program, inputs, coins):
        answer = chain(setting, program)
        self.assertIsInstance(answer, tuple)
        self.assertEqual(len(answer), in_rounds(setting, program, inputs, coins)[1])
        made = {letter[1:4] for letter in plain_letters(setting, program, inputs, coins)}
        self.assertLessEqual(set(answer), made)
        for ahead, letter in zip(answer, answer[1:]):
            self.assertEqual(letter[1], ahead[2])
            self.assertNotIn(letter, all_made(setting, program, inputs, coins, {ahead}))
        for letter in answer:
            self.assertEqual((type(letter), len(letter)), (tuple, 3))

    def test_by_hand(self):
        program = ("program", (("in", 1), ("product", 0, 0), ("out", 1, 2)))
        answer = chain(("setting", 5, 2, 0), program)
        self.assertEqual(answer, ((0, 1, 2), (1, 2, 1), (2, 1, 2)))

    def test_without_letters(self):
        self.assertEqual(chain(SETTING, ("program", (("const", 1), NEXT))), ())
        self.assertEqual(chain(SETTING, ("program", (NEXT,))), ())
        self.assertEqual(chain(("setting", 5, 1, 0), ("program", (("in", 1), ("product", 0, 0), ("out", 1, 1)))), ())

    def test_each_kind_of_row(self):
        self.hold(SETTING, EACH_KIND, (2, 3), numbers(1, 7, coins_of(SETTING, EACH_KIND)))

    def test_a_letter_about_an_input_alone(self):
        program = ("program", (("in", 2), ("const", 1), ("out", 1, 1)))
        self.assertEqual(len(chain(SETTING, program)), 1)
        self.hold(SETTING, program, (3,), (1,))

    def test_the_last_row_need_not_be_the_latest(self):
        program = ("program", (("in", 1), ("product", 0, 0), ("product", 1, 1), ("out", 2, 3), ("in", 2),
            ("out", 4, 2)))
        self.hold(SETTING, program, (3, 4), numbers(3, 7, coins_of(SETTING, program)))
        self.assertEqual(len(chain(SETTING, program)), 4)

    def test_some_programs(self):
        for setting in SETTINGS[:6]:
            for seed in range(20):
                self.hold(setting, *some_run(seed, setting, 3 + seed))

    def test_no_order_ends_a_chain_sooner(self):
        # Each letter of the chain is made only behind the taking of the one ahead, in whatever order all others come.
        for seed in range(6):
            program, inputs, coins = some_run(seed, SETTING, 10)
            for ahead, letter in zip(chain(SETTING, program), chain(SETTING, program)[1:]):
                parties = fresh(SETTING, program, inputs, coins)
                way = [new for party in parties for new in party.made]
                while any(at[1:4] != ahead for at in way):
                    at = way.pop([at[1:4] != ahead for at in way].index(True))
                    way += parties[at[3] - 1].take(at)
                    self.assertNotIn(letter, [at[1:4] for party in parties for at in party.made])

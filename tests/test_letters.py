"""d1, d2 and the interface: untold/letters.py."""

import unittest
from itertools import product

from tests.oracle import numbers, plain_letters, plain_own, some_program
from untold.coins import coins_of
from untold.letters import letters_of, own_coins, own_inputs, sends
from untold.programs import input_rows
from untold.runs import run

SETTING = ("setting", 7, 3, 1)
NEXT = ("next",)
EACH_KIND = ("program", (
    ("in", 2), ("const", 6), ("sum", 0, 1), ("less", 2, 0), ("product", 3, 2), ("times", 5, 4), ("out", 5, 3), NEXT,
    ("kept", 5), ("in", 1), ("out", 8, 1),
))
SETTINGS = [("setting", *rest) for rest in (
    (2, 1, 0), (3, 2, 0), (5, 3, 1), (7, 3, 0), (7, 5, 2), (11, 6, 2), (11, 9, 4), (10007, 9, 4),
)]


class Sends(unittest.TestCase):
    def pairs(self, k, program=EACH_KIND, setting=SETTING):
        """All pairs of parties of which the first sends the second a letter about row k."""
        found = set()
        for i, j in product(range(1, setting[2] + 1), repeat=2):
            answer = sends(setting, program, k, i, j)
            self.assertIsInstance(answer, bool)
            if answer:
                found.add((i, j))
        return found

    def test_each_kind_of_row_and_all_pairs(self):
        every = {(1, 2), (1, 3), (2, 1), (2, 3), (3, 1), (3, 2)}
        right = {0: {(2, 1), (2, 3)}, 4: every, 6: {(1, 3), (2, 3)}, 8: every, 9: {(1, 2), (1, 3)},
            10: {(2, 1), (3, 1)}}
        for k in range(11):
            self.assertEqual(self.pairs(k), right.get(k, set()), k)

    def test_a_party_alone(self):
        program = ("program", (("in", 1), ("product", 0, 0), ("out", 1, 1), NEXT, ("kept", 1)))
        for k in range(5):
            self.assertEqual(self.pairs(k, program, ("setting", 5, 1, 0)), set())

    def test_they_are_the_letters_of_a_run(self):
        for setting in SETTINGS:
            for seed in range(10):
                program = some_program(seed, setting, 4 + seed)
                inputs = numbers(seed, setting[1], len(input_rows(program)))
                letters = letters_of(setting, program, inputs, numbers(seed, setting[1], coins_of(setting, program)))
                found = {(k, i, j) for k in range(len(program[1])) for i, j in self.pairs(k, program, setting)}
                self.assertEqual([letter[1:4] for letter in letters], sorted(found))


class LettersOf(unittest.TestCase):
    def test_by_hand(self):
        # The shares of 2 with the coin 1 are 3, 4, 5, those of 3 with the coin 2 are 5, 0, 2; the products of the
        # parties are 1, 0, 3, shared with the coins 0, 4 and 1; the weights of 1, 2, 3 for 0 are 3, 4, 1.
        program = ("program", (("in", 1), ("in", 2), ("product", 0, 1), ("out", 2, 3)))
        self.assertEqual(letters_of(SETTING, program, (2, 3), (1, 2, 0, 4, 1)), (
            ("letter", 0, 1, 2, 4), ("letter", 0, 1, 3, 5), ("letter", 1, 2, 1, 5), ("letter", 1, 2, 3, 2),
            ("letter", 2, 1, 2, 1), ("letter", 2, 1, 3, 1), ("letter", 2, 2, 1, 4), ("letter", 2, 2, 3, 5),
            ("letter", 2, 3, 1, 4), ("letter", 2, 3, 2, 5), ("letter", 3, 1, 3, 2), ("letter", 3, 2, 3, 5),
        ))

    def test_a_row_kept_by_hand(self):
        program = ("program", (("const", 4), NEXT, ("kept", 0), ("out", 2, 1)))
        self.assertEqual(letters_of(SETTING, program, (), (1, 0, 3)), (
            ("letter", 2, 1, 2, 2), ("letter", 2, 1, 3, 3), ("letter", 2, 2, 1, 0), ("letter", 2, 2, 3, 0),
            ("letter", 2, 3, 1, 3), ("letter", 2, 3, 2, 6), ("letter", 3, 2, 1, 5), ("letter", 3, 3, 1, 2),
        ))

    def test_some_programs(self):
        for setting in SETTINGS:
            for seed in range(30):
                program = some_program(seed, setting, 3 + seed % 20)
                inputs = numbers(seed, setting[1], len(input_rows(program)))
                coins = numbers(seed + 7, setting[1], coins_of(setting, program))
                answer = letters_of(setting, program, inputs, coins)
                self.assertEqual(answer, plain_letters(setting, program, inputs, coins))
                self.assertIsInstance(answer, tuple)
                self.assertEqual(list(answer), sorted(set(answer)))

    def test_a_row_out_has_the_shares(self):
        program, coins = EACH_KIND, numbers(3, 7, coins_of(SETTING, EACH_KIND))
        shares = run(SETTING, program, (4, 5), coins)
        for k, a, reader in ((6, 5, 3), (10, 8, 1)):
            found = {i: x for _, at, i, _, x in letters_of(SETTING, program, (4, 5), coins) if at == k}
            self.assertEqual(found, {i: shares[a][i - 1] for i in (1, 2, 3) if i != reader})

    def test_a_party_alone(self):
        program = ("program", (("in", 1), ("product", 0, 0), ("out", 1, 1)))
        self.assertEqual(letters_of(("setting", 5, 1, 0), program, (3,), ()), ())


class Own(unittest.TestCase):
    def test_by_hand(self):
        program = ("program", (("in", 2), ("in", 1), ("product", 0, 1), ("in", 2), NEXT, ("kept", 2), ("in", 1),
            ("in", 2)))
        inputs, coins = (0, 1, 2, 3, 4), (10, 11, 12, 13, 14, 15, 16, 17, 18, 19, 20)
        for party, given, drawn in (
            (1, (1, 3), (11, 12, 16, 19)), (2, (0, 2, 4), (10, 13, 15, 17, 20)), (3, (), (14, 18)),
        ):
            self.assertEqual(own_inputs(program, inputs, party), given)
            self.assertEqual(own_coins(("setting", 23, 3, 1), program, coins, party), drawn)

    def test_two_coins_each(self):
        program = ("program", (("in", 5), ("product", 0, 0), ("in", 1)))
        coins = tuple(range(14))
        setting = ("setting", 23, 5, 2)
        self.assertEqual([own_coins(setting, program, coins, party) for party in range(1, 6)],
                         [(2, 3, 12, 13), (4, 5), (6, 7), (8, 9), (0, 1, 10, 11)])

    def test_without_coins(self):
        program = ("program", (("in", 1), ("product", 0, 0)))
        self.assertEqual(own_coins(("setting", 5, 3, 0), program, (), 1), ())
        self.assertEqual(own_coins(("setting", 5, 3, 1), ("program", (("const", 1),)), (), 1), ())
        self.assertEqual(own_inputs(("program", (("const", 1),)), (), 1), ())

    def test_some_programs(self):
        for setting in SETTINGS:
            for seed in range(20):
                program = some_program(seed, setting, 3 + seed)
                inputs = numbers(seed, setting[1], len(input_rows(program)))
                coins = numbers(seed + 7, setting[1], coins_of(setting, program))
                many = 0
                for party in range(1, setting[2] + 1):
                    answer = own_inputs(program, inputs, party), own_coins(setting, program, coins, party)
                    self.assertEqual(answer, plain_own(setting, program, inputs, coins, party))
                    self.assertEqual([type(part) for part in answer], [tuple, tuple])
                    many += len(answer[1])
                self.assertEqual(many, len(coins))

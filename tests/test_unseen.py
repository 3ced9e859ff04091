"""j1 and the interface: untold/unseen.py."""

import unittest
from itertools import product

from tests.oracle import numbers, plain_view, similar_inputs, some_program, some_watchers
from untold.coins import coins_of
from untold.errors import BadState
from untold.matching import matched
from untold.programs import input_rows
from untold.unseen import judge, paper
from untold.views import agree

SETTING = ("setting", 7, 3, 1)
PROGRAM = ("program", (("in", 1), ("in", 2), ("product", 0, 1), ("out", 2, 3)))
WATCHERS = ((3,),)
COINS = (1, 2, 0, 0, 0)
PAPER = ("unseen", (2, 3), (1, 6), COINS, (6, 1, 5, 5, 0))
SETTINGS = [("setting", *rest) for rest in ((2, 1, 0), (3, 2, 0), (5, 3, 1), (7, 5, 2), (11, 7, 3), (10007, 9, 4))]


class Papers(unittest.TestCase):
    def judged(self, right, thing, setting=SETTING, program=PROGRAM, watchers=WATCHERS):
        answer = judge(setting, program, watchers, thing)
        self.assertIs(answer, right, thing)


class ThatHold(Papers):
    def test_by_hand(self):
        # The coins are those of the matching by hand in test_matching.py.
        self.assertEqual(paper(SETTING, PROGRAM, (2, 3), (1, 6), COINS, WATCHERS), PAPER)
        self.judged(True, PAPER)

    def test_the_form(self):
        answer = paper(SETTING, PROGRAM, (2, 3), (4, 5), COINS, WATCHERS)
        self.assertIsInstance(answer, tuple)
        self.assertEqual(answer[:4], ("unseen", (2, 3), (4, 5), COINS))
        self.assertEqual(answer[4], matched(SETTING, PROGRAM, (2, 3), (4, 5), COINS, WATCHERS))

    def test_some_programs(self):
        others = 0
        for setting in SETTINGS:
            for seed in range(25):
                program = some_program(seed, setting, 4 + seed % 14)
                watchers = some_watchers(seed, setting, program, setting[3])
                first = numbers(seed, setting[1], len(input_rows(program)))
                coins = numbers(seed + 5, setting[1], coins_of(setting, program))
                for second in similar_inputs(setting, program, first, watchers)[:4]:
                    others += second != first
                    answer = paper(setting, program, first, second, coins, watchers)
                    self.assertEqual(answer[:4], ("unseen", first, second, coins))
                    self.judged(True, answer, setting, program, watchers)
        self.assertGreater(others, 50)

    def test_other_coins_than_the_matched_ones_may_hold(self):
        # In a setting of one party that nobody watches all coins, of which there are none, give the same view.
        setting, program = ("setting", 2, 1, 0), ("program", (("in", 1), ("out", 0, 1)))
        self.judged(True, ("unseen", (0,), (1,), (), ()), setting, program, ((),))
        # With nobody watched, what is drawn is seen by nobody.
        for coins, other in product(((0, 0, 0, 0, 0), COINS, (6, 6, 6, 6, 6)), repeat=2):
            self.judged(True, ("unseen", (2, 3), (5, 1), coins, other), watchers=((),))

    def test_the_same_inputs_and_coins(self):
        self.judged(True, ("unseen", (2, 3), (2, 3), COINS, COINS))


class ThatDoNotHold(Papers):
    def test_inputs_that_do_not_agree(self):
        for first, second in (((2, 3), (2, 4)), ((0, 0), (1, 1))):
            with self.assertRaises(BadState) as caught:
                paper(SETTING, PROGRAM, first, second, COINS, WATCHERS)
            self.assertIs(caught.exception.__class__, BadState)
        with self.assertRaises(BadState) as caught:
            paper(SETTING, PROGRAM, (2, 3), (1, 6), COINS, ((1,),))
        self.assertIs(caught.exception.__class__, BadState)

    def test_just_where_they_do_not_agree(self):
        refused = 0
        for setting in SETTINGS:
            for seed in range(20):
                program = some_program(seed, setting, 12)
                watchers = some_watchers(seed, setting, program, setting[3])
                many = len(input_rows(program))
                first, second = numbers(seed, setting[1], many), numbers(seed + 1, setting[1], many)
                coins = numbers(seed, setting[1], coins_of(setting, program))
                if agree(setting, program, first, second, watchers):
                    paper(setting, program, first, second, coins, watchers)
                else:
                    refused += 1
                    with self.assertRaises(BadState) as caught:
                        paper(setting, program, first, second, coins, watchers)
                    self.assertIs(caught.exception.__class__, BadState)
                    self.judged(False, ("unseen", first, second, coins, coins), setting, program, watchers)
        self.assertGreater(refused, 15)

    def test_changed_in_one_number(self):
        for part in range(1, 5):
            for at in range(len(PAPER[part])):
                for number in range(7):
                    row = PAPER[part][:at] + (number,) + PAPER[part][at + 1:]
                    self.judged(row == PAPER[part], PAPER[:part] + (row,) + PAPER[part + 1:])

    def test_changed_numbers_by_the_view(self):
        # In a setting with few numbers: what is judged is just whether both views are the same.
        setting, program = ("setting", 3, 2, 0), ("program", (("in", 1), ("in", 2), ("sum", 0, 1), ("out", 2, 2)))
        held = 0
        for first, second in product(product(range(3), repeat=2), repeat=2):
            same = plain_view(setting, program, first, (), ((),)) == plain_view(setting, program, second, (), ((),))
            self.judged(same, ("unseen", first, second, (), ()), setting, program, ((),))
        setting, program = ("setting", 5, 3, 1), ("program", (("in", 1), ("product", 0, 0)))
        coins = (1, 2, 3, 4)
        for second, other in product(((1,), (3,)), product(range(5), repeat=4)):
            views = [plain_view(setting, program, *run, ((2,),)) for run in (((1,), coins), (second, other))]
            same = views[0] == views[1]
            held += same
            self.judged(same, ("unseen", (1,), second, coins, other), setting, program, ((2,),))
        self.assertEqual(held, 2)

    def test_other_watchers(self):
        self.judged(False, PAPER, watchers=((1,),))
        self.judged(False, PAPER, watchers=((2,),))

    def test_the_parts_in_another_order(self):
        _, first, second, coins, other = PAPER
        self.judged(True, ("unseen", second, first, other, coins))
        self.judged(False, ("unseen", second, first, coins, other))
        self.judged(False, ("unseen", coins, other, first, second))


class NoPapers(Papers):
    def test_other_shapes(self):
        for thing in (
            None, True, False, 0, 1, "", "unseen", (), [], ("unseen",), list(PAPER), PAPER[:4], PAPER[1:],
            (*PAPER, ()), (*PAPER, None), (PAPER,), ("unseen", PAPER), [PAPER], ("unseen", *PAPER),
        ):
            self.judged(False, thing)

    def test_other_words(self):
        for word in ("Unseen", "unseen ", "seen", "", "paper", None, 0, True, ("unseen",), ["unseen"], b"unseen"):
            self.judged(False, (word, *PAPER[1:]))

    def test_other_kinds_of_parts(self):
        for part in range(1, 5):
            for thing in (None, True, 0, 3, "", "23", "unseen", (), list(PAPER[part]), [], (PAPER[part],),
                          tuple(str(x) for x in PAPER[part])):
                self.judged(False, PAPER[:part] + (thing,) + PAPER[part + 1:])

    def test_fewer_and_more_numbers(self):
        for part in range(1, 5):
            for row in (PAPER[part][:-1], PAPER[part][1:], (*PAPER[part], 0), (0, *PAPER[part]), PAPER[part] * 2):
                self.judged(False, PAPER[:part] + (row,) + PAPER[part + 1:])
        self.judged(False, ("unseen", (2, 3, 0), (1, 6, 0), COINS, PAPER[4]))
        self.judged(False, ("unseen", (2, 3), (2, 3), (*COINS, 0), (*COINS, 0)))
        self.judged(False, ("unseen", (2, 3), (2, 3), COINS[:4], COINS[:4]))

    def test_numbers_out_of_range(self):
        for part in range(1, 5):
            for at in range(len(PAPER[part])):
                for number in (PAPER[part][at] + 7, PAPER[part][at] - 7, 7, -1, 10 ** 30):
                    row = PAPER[part][:at] + (number,) + PAPER[part][at + 1:]
                    self.judged(False, PAPER[:part] + (row,) + PAPER[part + 1:])

    def test_truth_values_and_other_items(self):
        same = ("unseen", (1, 0), (1, 0), (1, 0, 0, 0, 1), (1, 0, 0, 0, 1))
        self.judged(True, same)
        for part in range(1, 5):
            for at in range(len(same[part])):
                for item in (bool(same[part][at]), None, str(same[part][at]), (same[part][at],), [same[part][at]]):
                    row = same[part][:at] + (item,) + same[part][at + 1:]
                    self.judged(False, same[:part] + (row,) + same[part + 1:])

    def test_what_is_handed_stays(self):
        thing = ("unseen", [2, 3], (1, 6), [1, [2]], (0,))
        before = repr(thing)
        self.judged(False, thing)
        self.assertEqual(repr(thing), before)

"""v1, v2, v3 and the interface: untold/views.py."""

import unittest
from itertools import combinations, product

from tests.oracle import choices, numbers, plain_view, some_program, some_watchers
from untold.coins import coins_of
from untold.plain import shown
from untold.programs import input_rows
from untold.views import agree, check_watchers, view

SETTING = ("setting", 7, 3, 1)
WIDE = ("setting", 7, 5, 2)
NEXT = ("next",)
SETTINGS = [("setting", *rest) for rest in (
    (2, 1, 0), (3, 2, 0), (5, 3, 1), (5, 4, 1), (7, 5, 2), (7, 6, 1), (11, 9, 4), (10007, 9, 4), (10007, 8, 2),
)]


def program(*rows):
    return ("program", rows)


class CheckWatchers(unittest.TestCase):
    one = program(("in", 1))
    three = program(("in", 1), NEXT, NEXT, ("const", 1))

    def hold(self, right, watchers, rows, setting=WIDE):
        found = check_watchers(setting, rows, watchers)
        self.assertIs(found, right, watchers)

    def test_right_ones(self):
        for some in ((), (1,), (5,), (1, 2), (1, 5), (4, 5)):
            self.hold(True, (some,), self.one)
        self.hold(True, ((1, 2), (), (2, 5)), self.three)
        self.hold(True, ((), (), ()), self.three)
        self.hold(True, ((),), self.one, ("setting", 2, 1, 0))
        self.hold(True, ((1, 3, 8, 9),), self.one, ("setting", 11, 9, 4))

    def test_each_choice(self):
        for some in product(range(-1, 7), repeat=2):
            self.hold(1 <= some[0] < some[1] <= 5, (some,), self.one)

    def test_too_few_or_too_many_tuples(self):
        self.hold(False, (), self.one)
        self.hold(False, ((), ()), self.one)
        self.hold(False, ((1,), (1,)), self.three)
        self.hold(False, ((1,), (1,), (1,), (1,)), self.three)

    def test_a_party_twice_and_not_ascending(self):
        for some in ((1, 1), (5, 5), (2, 1), (5, 4)):
            self.hold(False, (some,), self.one)
        self.hold(False, ((1, 2), (1, 2), (2, 1)), self.three)
        self.hold(False, ((1, 3, 2),), self.one, ("setting", 11, 9, 4))

    def test_more_than_t(self):
        for many in range(6):
            for some in combinations(range(1, 6), many):
                self.hold(many <= 2, (some,), self.one)
        self.hold(False, ((1,),), self.one, ("setting", 7, 5, 0))
        self.hold(False, ((1, 2), (1, 2, 3), (1,)), self.three)

    def test_numbers_out_of_1_to_n(self):
        for party in (0, -1, 6, 10 ** 30, -5):
            self.hold(False, ((party,),), self.one)
            self.hold(False, ((), (), (party,)), self.three)
        self.hold(False, ((4, 6),), self.one)
        self.hold(False, ((0, 4),), self.one)

    def test_truth_values(self):
        for some in ((True,), (False,), (True, 2), (1, True)):
            self.hold(False, (some,), self.one)
        self.hold(False, (True,), self.one)
        self.hold(False, True, self.one)

    def test_lists(self):
        self.hold(False, [(1,)], self.one)
        self.hold(False, ([1],), self.one)
        self.hold(False, ([],), self.one)
        self.hold(False, [], self.one)
        self.hold(False, ((1,), [1], (1,)), self.three)

    def test_other_kinds(self):
        for thing in (None, 0, 1, "", "1", "watchers", False, ("",), ("1",), (None,), (0,), (1,)):
            self.hold(False, thing, self.one)
        for some in ("1", None, (1,), [1], (), "", "12"):
            self.hold(False, ((some,),), self.one)
            self.hold(False, ((1, some),), self.one)
            self.hold(False, ((some, 5),), self.one)
        self.hold(False, "abc", self.three)
        self.hold(False, ("", "", ""), self.three)


class WorkedExample(unittest.TestCase):
    def test_it(self):
        rows = program(("in", 1), ("in", 2), ("product", 0, 1), ("out", 2, 3))
        right = (("sent", (5,)), ("sent", (2,)), ((1,), (0,), (0,)), (6, 6, 6))
        self.assertEqual(view(SETTING, rows, (2, 3), (1, 2, 0, 0, 0), ((3,),)), right)
        self.assertIs(agree(SETTING, rows, (2, 3), (4, 5), ((3,),)), True)
        self.assertIs(agree(SETTING, rows, (2, 3), (4, 4), ((3,),)), False)
        self.assertIs(agree(SETTING, rows, (2, 3), (4, 5), ((1,),)), False)


class EachKind(unittest.TestCase):
    """All reckoned by hand: the shares of 2 with the coin 1 are 3, 4, 5, those of 3 with the coin 2 are 5, 0, 2."""

    def hold(self, rows, inputs, coins, watchers, right):
        self.assertEqual(view(SETTING, rows, inputs, coins, watchers), right)

    def test_in(self):
        rows = program(("in", 1), ("in", 2))
        self.hold(rows, (2, 3), (1, 2), ((1,),), (("own", 2, (1,)), ("sent", (5,))))
        self.hold(rows, (2, 3), (1, 2), ((2,),), (("sent", (4,)), ("own", 3, (2,))))
        self.hold(rows, (2, 3), (1, 2), ((1, 3),), (("own", 2, (1,)), ("sent", (5, 2))))
        self.hold(rows, (2, 3), (1, 2), ((),), (("sent", ()), ("sent", ())))

    def test_product(self):
        # The parties deal (1, 4), (1, 5) and (1, 1) as polynomials: their values are 5, 2, 6; 6, 4, 2; and 2, 3, 4.
        rows = program(("const", 1), ("product", 0, 0))
        for watched, right in (
            ((), ((), (), ())), ((1,), ((4,), (6,), (2,))), ((2,), ((2,), (5,), (3,))), ((3,), ((6,), (2,), (1,))),
            ((1, 3), ((4,), (6, 2), (1,))), ((2, 3), ((2, 6), (5,), (1,))), ((1, 2, 3), ((4,), (5,), (1,))),
        ):
            self.hold(rows, (), (4, 5, 1), (watched,), ((), right))

    def test_kept(self):
        # The parties deal (1, 2, 3), (4, 1, 5) and (0, 0, 0); the new shares are 1, 0, 6.
        rows = program(("in", 1), NEXT, ("kept", 0))
        ahead = {(): ("sent", ()), (1,): ("own", 2, (1,)), (2,): ("sent", (4,)), (2, 3): ("sent", (4, 5))}
        for watchers, right in (
            (((), ()), (((), (), ()), ())),
            (((1,), ()), (((), (), ()), ())),
            (((), (1,)), (((), (), ()), (1,))),
            (((1,), (1,)), (((1,), (4,), (0,)), (1,))),
            (((2,), (2,)), (((2,), (4,), (0,)), (0,))),
            (((1,), (3,)), (((), (), ()), (6,))),
            (((2, 3), (1, 3)), (((3,), (5,), (0,)), (1, 6))),
            (((2, 3), (1, 2, 3)), (((2, 3), (4,), (0,)), (1, 0, 6))),
        ):
            self.hold(rows, (2,), (1, 1, 4, 0), watchers, (ahead[watchers[0]], (), right))

    def test_kept_behind_the_first_mark(self):
        # Who counts is watched in both epochs beside the mark, whoever was watched ahead of them.
        rows = program(("const", 2), NEXT, ("kept", 0), NEXT, ("kept", 2))
        coins = (0, 0, 0, 1, 4, 0)
        first = ((0,), (0,), (0,))
        for watchers, one, two in (
            (((1,), (2,), (2,)), (((), (), ()), (2,)), (((2,), (4,), (0,)), (5,))),
            (((1,), (2,), (1,)), (((), (), ()), (2,)), (((), (), ()), (0,))),
            (((1,), (1,), (2,)), (first, (2,)), (((), (), ()), (5,))),
            (((1,), (), (1,)), (((), (), ()), ()), (((), (), ()), (0,))),
        ):
            self.hold(rows, (), coins, watchers, ((), (), one, (), two))

    def test_out(self):
        rows = program(("in", 1), ("out", 0, 2), ("out", 0, 3))
        self.hold(rows, (2,), (1,), ((3,),), (("sent", (5,)), (), (3, 4, 5)))
        self.hold(rows, (2,), (1,), ((1,),), (("own", 2, (1,)), (), ()))
        self.hold(rows, (2,), (1,), ((2, 3),), (("sent", (4, 5)), (3, 4, 5), (3, 4, 5)))
        self.hold(rows, (2,), (1,), ((),), (("sent", ()), (), ()))

    def test_all_other_rows(self):
        rows = program(("const", 3), ("sum", 0, 0), ("less", 0, 1), ("times", 2, 0), NEXT, ("const", 1))
        self.hold(rows, (), (), ((1,), (2,)), ((), (), (), (), (), ()))

    def test_the_watched_of_its_own_epoch_count(self):
        rows = program(("in", 1), ("out", 0, 1), NEXT, ("kept", 0), ("in", 1), ("out", 3, 1), ("out", 3, 2))
        coins = (1, 1, 4, 0, 1)
        here = (("own", 2, (1,)), (3, 4, 5), (), (((), (), ()), (0,)), ("sent", (4,)), (), (1, 0, 6))
        self.hold(rows, (2, 2), coins, ((1,), (2,)), here)
        there = (("sent", (4,)), (), (), (((), (), ()), (1,)), ("own", 2, (1,)), (1, 0, 6), ())
        self.hold(rows, (2, 2), coins, ((2,), (1,)), there)

    def test_more_coins_for_each(self):
        setting = ("setting", 7, 5, 2)
        rows = program(("in", 2), ("product", 0, 0))
        coins = numbers(5, 7, 12)
        found = view(setting, rows, (6,), coins, ((2, 4),))
        self.assertEqual(found[0], ("own", 6, coins[:2]))
        self.assertEqual([found[1][1], found[1][3]], [coins[4:6], coins[8:10]])
        self.assertEqual([len(found[1][i]) for i in (0, 2, 4)], [2, 2, 2])


class Views(unittest.TestCase):
    def hold(self, setting, rows, seed, watchers):
        inputs = numbers(seed, setting[1], len(input_rows(rows)))
        coins = numbers(seed + 77, setting[1], coins_of(setting, rows))
        right = plain_view(setting, rows, inputs, coins, watchers)
        self.assertEqual(view(setting, rows, inputs, coins, watchers), right, (setting, rows, watchers))

    def test_the_words_of_the_document(self):
        for setting in SETTINGS:
            for seed in range(50):
                rows = some_program(seed, setting, 5 + seed % 20)
                self.hold(setting, rows, seed, some_watchers(seed, setting, rows, setting[3]))

    def test_more_than_t_watched(self):
        for setting in SETTINGS:
            for seed in range(50):
                rows = some_program(seed, setting, 5 + seed % 20)
                self.hold(setting, rows, seed, some_watchers(seed, setting, rows, setting[2]))

    def test_nobody_and_everybody(self):
        for setting in SETTINGS:
            for seed in range(20):
                rows = some_program(seed, setting, 12)
                many = 1 + sum(row == NEXT for row in rows[1])
                self.hold(setting, rows, seed, ((),) * many)
                self.hold(setting, rows, seed, (tuple(range(1, setting[2] + 1)),) * many)

    def test_a_row_kept_with_each_choice_on_both_sides(self):
        rows = program(("in", 2), NEXT, ("kept", 0), ("product", 2, 2), NEXT, ("kept", 3))
        everyone = choices((1, 2, 3), 3)
        for watchers in product(everyone, repeat=3):
            self.hold(SETTING, rows, 9, watchers)


class Agree(unittest.TestCase):
    def by_words(self, setting, rows, first, second, watchers):
        """Whether they agree, looked at party by party and row by row."""
        epoch, used = 0, 0
        shows = [{k: value for k, _, value in shown(setting, rows, inputs)} for inputs in (first, second)]
        for k, row in enumerate(rows[1]):
            epoch += row == NEXT
            if row[0] == "in":
                if row[1] in watchers[epoch] and first[used] != second[used]:
                    return False
                used += 1
            if row[0] == "out" and row[2] in watchers[epoch] and shows[0][k] != shows[1][k]:
                return False
        return True

    def test_inputs(self):
        rows = program(("in", 1), ("in", 2))
        self.assertIs(agree(SETTING, rows, (2, 3), (2, 4), ((1,),)), True)
        self.assertIs(agree(SETTING, rows, (2, 3), (1, 3), ((1,),)), False)
        self.assertIs(agree(SETTING, rows, (2, 3), (5, 6), ((),)), True)
        self.assertIs(agree(SETTING, rows, (2, 3), (5, 6), ((3,),)), True)
        self.assertIs(agree(SETTING, rows, (2, 3), (2, 3), ((1,),)), True)

    def test_what_is_shown(self):
        rows = program(("in", 1), ("in", 2), ("sum", 0, 1), ("out", 2, 3))
        self.assertIs(agree(SETTING, rows, (2, 3), (3, 2), ((3,),)), True)
        self.assertIs(agree(SETTING, rows, (2, 3), (3, 3), ((3,),)), False)
        self.assertIs(agree(SETTING, rows, (2, 3), (3, 3), ((),)), True)

    def test_in_their_epoch_alone(self):
        rows = program(("in", 1), ("in", 2), ("out", 1, 3), NEXT, ("kept", 0), ("in", 1), ("out", 4, 3))
        self.assertIs(agree(SETTING, rows, (2, 3, 4), (5, 3, 4), ((3,), (1,))), True)
        self.assertIs(agree(SETTING, rows, (2, 3, 4), (5, 3, 4), ((3,), (3,))), False)
        self.assertIs(agree(SETTING, rows, (2, 3, 4), (5, 3, 4), ((1,), ())), False)
        self.assertIs(agree(SETTING, rows, (2, 3, 4), (2, 3, 5), ((1,), ())), True)
        self.assertIs(agree(SETTING, rows, (2, 3, 4), (2, 3, 5), ((1,), (1,))), False)
        self.assertIs(agree(SETTING, rows, (2, 3, 4), (2, 4, 4), ((), (3,))), True)
        self.assertIs(agree(SETTING, rows, (2, 3, 4), (2, 4, 4), ((3,), ())), False)

    def test_both_ways(self):
        answers = set()
        for setting in SETTINGS:
            for seed in range(30):
                rows = some_program(seed, setting, 5 + seed % 10)
                watchers = some_watchers(seed, setting, rows, setting[3])
                many = len(input_rows(rows))
                first = numbers(seed, setting[1], many)
                for other in range(6):
                    second = numbers(seed * 10 + other, setting[1], many)
                    right = self.by_words(setting, rows, first, second, watchers)
                    answers.add(right)
                    self.assertIs(agree(setting, rows, first, second, watchers), right)
                    self.assertIs(agree(setting, rows, second, first, watchers), right)
        self.assertEqual(answers, {True, False})

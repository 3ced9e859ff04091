"""m2 by counting, m4 and the interface: untold/still.py."""

import unittest
from itertools import product

from tests.oracle import plain_view
from untold.coins import coins_of
from untold.errors import TooGreat
from untold.programs import input_rows
from untold.still import count_views, still
from untold.views import agree, view

NEXT = ("next",)
FIVE = ("setting", 5, 3, 1)


def program(*rows):
    return ("program", rows)


# Programs that take few coins, with watchers; so all can be tried.
CASES = (
    (FIVE, program(("in", 1), ("in", 2), ("sum", 0, 1), ("out", 2, 3)), ((), (1,), (2,), (3,))),
    (FIVE, program(("in", 1), ("in", 1), ("less", 0, 1)), ((), (1,), (2,))),
    (FIVE, program(("in", 1), ("product", 0, 0), ("out", 1, 2)), ((), (1,), (2,), (3,))),
    (("setting", 7, 3, 1), program(("in", 1), ("in", 3), ("times", 2, 1), ("sum", 0, 2), ("out", 3, 2)), ((2,), (3,))),
    (("setting", 3, 2, 0), program(("in", 1), ("in", 2), ("product", 0, 1), ("out", 2, 2)), ((),)),
    (("setting", 2, 1, 0), program(("in", 1), ("in", 1), ("product", 0, 1), ("out", 2, 1)), ((),)),
)
MOVED = program(("in", 1), NEXT, ("kept", 0), ("out", 2, 1))


class Still(unittest.TestCase):
    def by_trying(self, setting, rows, inputs, watchers):
        """The inputs with which some coins have the very view that all-0 and all-1 coins have with these."""
        p, many = setting[1], coins_of(setting, rows)
        found = []
        for coins in ((0,) * many, (1,) * many):
            seen = plain_view(setting, rows, inputs, coins, watchers)
            found.append(tuple(
                other for other in product(range(p), repeat=len(inputs))
                if any(plain_view(setting, rows, other, tried, watchers) == seen
                       for tried in product(range(p), repeat=many))
            ))
        self.assertEqual(found[0], found[1])
        return found[0]

    def test_against_trying_all(self):
        for setting, rows, some in CASES:
            many = len(input_rows(rows))
            for watched in some:
                for inputs in ((0,) * many, (1,) * many, tuple(range(1, many + 1))):
                    if max(inputs) < setting[1]:
                        right = self.by_trying(setting, rows, inputs, (watched,))
                        self.assertEqual(still(setting, rows, inputs, (watched,)), right, (setting, rows, watched))

    def test_against_trying_all_with_watchers_who_move(self):
        for watchers in (((), (2,)), ((2,), (3,)), ((2,), (2,)), ((2,), (1,)), ((1,), (2,))):
            right = self.by_trying(FIVE, MOVED, (3,), watchers)
            self.assertEqual(still(FIVE, MOVED, (3,), watchers), right, watchers)

    def test_by_hand(self):
        rows = program(("in", 1), ("in", 2), ("sum", 0, 1), ("out", 2, 3))
        self.assertEqual(still(FIVE, rows, (1, 3), ((3,),)), ((0, 4), (1, 3), (2, 2), (3, 1), (4, 0)))
        self.assertEqual(still(FIVE, rows, (1, 3), ((1,),)), ((1, 0), (1, 1), (1, 2), (1, 3), (1, 4)))
        self.assertEqual(still(FIVE, rows, (1, 3), ((),)), tuple(product(range(5), repeat=2)))
        self.assertEqual(still(FIVE, program(("in", 1), ("in", 1)), (4, 2), ((1,),)), ((4, 2),))

    def test_without_inputs(self):
        self.assertEqual(still(FIVE, program(("const", 2), ("out", 0, 1)), (), ((1,),)), ((),))

    def test_those_that_agree_and_no_others(self):
        rows = program(("in", 1), ("in", 2), ("in", 3), ("product", 0, 1), ("less", 3, 2), ("out", 4, 3))
        setting = ("setting", 7, 3, 1)
        for watched in ((), (1,), (2,), (3,)):
            right = tuple(other for other in product(range(7), repeat=3)
                          if agree(setting, rows, (2, 3, 4), other, (watched,)))
            self.assertEqual(still(setting, rows, (2, 3, 4), (watched,)), right)


class CountViews(unittest.TestCase):
    def by_trying(self, setting, rows, inputs, watchers):
        counts = {}
        for coins in product(range(setting[1]), repeat=coins_of(setting, rows)):
            seen = plain_view(setting, rows, inputs, coins, watchers)
            counts[seen] = counts.get(seen, 0) + 1
        return tuple(sorted(counts.items(), key=lambda pair: repr(pair[0])))

    def test_against_trying_all(self):
        for setting, rows, some in CASES:
            inputs = (1,) * len(input_rows(rows))
            for watched in some:
                right = self.by_trying(setting, rows, inputs, (watched,))
                self.assertEqual(count_views(setting, rows, inputs, (watched,)), right)
        for watchers in (((2,), (2,)), ((2,), (3,)), ((), (1,))):
            right = self.by_trying(FIVE, MOVED, (3,), watchers)
            self.assertEqual(count_views(FIVE, MOVED, (3,), watchers), right)

    def test_each_view_by_as_many_coins_with_all_that_agree(self):
        for setting, rows, some in CASES:
            inputs = (1,) * len(input_rows(rows))
            for watched in some:
                right = count_views(setting, rows, inputs, (watched,))
                seen = {pair[0] for pair in right}
                for other in product(range(setting[1]), repeat=len(inputs)):
                    if setting[1] > 5 and other[0] > 2:
                        continue
                    found = count_views(setting, rows, other, (watched,))
                    if other in still(setting, rows, inputs, (watched,)):
                        self.assertEqual(found, right, (setting, rows, other))
                    else:
                        self.assertEqual(seen & {pair[0] for pair in found}, set(), (setting, rows, other))

    def test_ascending_by_the_texts(self):
        # 10 stands ahead of 2 in a text.
        rows = program(("in", 1))
        found = count_views(("setting", 11, 3, 1), rows, (0,), ((1,),))
        right = sorted(((("own", 0, (coin,)),), 1) for coin in range(11))
        self.assertEqual(found, tuple(sorted(right, key=lambda pair: repr(pair[0]))))
        self.assertNotEqual(found, tuple(right))

    def test_without_coins(self):
        rows = program(("const", 2), ("out", 0, 1))
        self.assertEqual(count_views(FIVE, rows, (), ((1,),)), ((((), (2, 2, 2)), 1),))
        setting = ("setting", 2, 1, 0)
        self.assertEqual(count_views(setting, program(("in", 1)), (1,), ((),)), (((("sent", ()),), 1),))

    def test_nobody_watched(self):
        rows = program(("in", 1), ("in", 2))
        self.assertEqual(count_views(FIVE, rows, (1, 2), ((),)), (((("sent", ()), ("sent", ())), 25),))


class Bounds(unittest.TestCase):
    def refuse(self, function, *arguments):
        with self.assertRaises(TooGreat) as caught:
            function(*arguments)
        self.assertIs(caught.exception.__class__, TooGreat)

    def test_still(self):
        # The greatest count that can be tried and the least that can not, with each prime; none is just 20,000.
        for p, most in ((2, 14), (3, 9), (5, 6), (7, 5), (11, 4), (23, 3), (29, 2), (139, 2), (149, 1), (10007, 1)):
            setting = ("setting", p, 1, 0)
            self.assertLessEqual(p ** most, 20000)
            self.assertGreater(p ** (most + 1), 20000)
            rows = program(*[("in", 1)] * most)
            found = still(setting, rows, (1,) * most, ((),))
            self.assertEqual(len(found), p ** most)
            rows = program(*[("in", 1)] * (most + 1))
            self.refuse(still, setting, rows, (1,) * (most + 1), ((),))
        self.refuse(still, ("setting", 10007, 9, 4), program(*[("in", 1)] * 60), (0,) * 60, ((1,),))

    def test_still_hangs_on_the_inputs_alone(self):
        rows = program(("in", 1), *[("product", 0, 0)] * 50)
        self.assertEqual(still(("setting", 11, 9, 4), rows, (3,), ((1,),)), ((3,),))

    def test_count_views(self):
        for p, n, t, most in (
            (5, 3, 1, 6), (7, 3, 1, 5), (11, 5, 2, 4), (139, 3, 1, 2), (149, 3, 1, 1), (10007, 3, 1, 1),
        ):
            setting = ("setting", p, n, t)
            rows = program(*[("in", 1)] * (most // t))
            found = count_views(setting, rows, (0,) * (most // t), ((),))
            self.assertEqual([count for _, count in found], [p ** most])
            many = most // t + 1
            self.refuse(count_views, setting, program(*[("in", 1)] * many), (0,) * many, ((),))

    def test_count_views_counts_the_coins_of_all_rows(self):
        rows = (("in", 1), ("product", 0, 0), ("product", 1, 0))
        self.refuse(count_views, FIVE, program(*rows), (1,), ((),))
        self.assertEqual(count_views(FIVE, program(*rows[:2]), (1,), ((),))[0][1], 625)
        rows = (("const", 1), NEXT, ("kept", 0), ("kept", 0), ("in", 1))
        self.refuse(count_views, FIVE, program(*rows), (1,), ((), ()))
        self.assertEqual(count_views(FIVE, program(*rows[:4]), (), ((), ()))[0][1], 5 ** 6)
        self.refuse(count_views, ("setting", 10007, 9, 4), program(*[("in", 1)] * 60), (0,) * 60, ((1,),))

    def test_count_views_hangs_on_the_coins_alone(self):
        rows = program(*[("in", 1)] * 30)
        inputs = (1,) * 30
        found = count_views(("setting", 7, 3, 0), rows, inputs, ((),))
        self.assertEqual(found, ((view(("setting", 7, 3, 0), rows, inputs, (), ((),)), 1),))

"""c1 and the interface: untold/coins.py."""

import unittest

from untold.coins import coins_of, places

ROWS = (
    ("in", 1), ("const", 1), ("sum", 0, 1), ("less", 0, 1), ("product", 0, 1), ("times", 1, 0), ("out", 4, 1),
    ("in", 1), ("next",), ("kept", 4), ("out", 9, 1), ("product", 9, 9),
)
PROGRAM = ("program", ROWS)
SETTINGS = [("setting", 11, n, t) for n in range(1, 10) for t in range((n - 1) // 2 + 1)]


class Coins(unittest.TestCase):
    def test_each_kind_of_row(self):
        setting = ("setting", 7, 3, 1)
        right = (
            ((0,),), (), (), (), ((1,), (2,), (3,)), (), (), ((4,),), (), ((5,), (6,), (7,)), (), ((8,), (9,), (10,)),
        )
        self.assertEqual(places(setting, PROGRAM), right)
        self.assertEqual(coins_of(setting, PROGRAM), 11)

    def test_more_coins_for_each_party(self):
        setting = ("setting", 7, 5, 2)
        rows = ("program", (("in", 5), ("product", 0, 0), ("in", 1)))
        right = (((0, 1),), ((2, 3), (4, 5), (6, 7), (8, 9), (10, 11)), ((12, 13),))
        self.assertEqual(places(setting, rows), right)
        self.assertEqual(coins_of(setting, rows), 14)

    def test_a_row_kept(self):
        rows = ("program", (("const", 0), ("next",), ("kept", 0)))
        self.assertEqual(places(("setting", 7, 3, 1), rows), ((), (), ((0,), (1,), (2,))))
        self.assertEqual(coins_of(("setting", 7, 3, 1), rows), 3)

    def test_t_0(self):
        rows = ("program", (("in", 1), ("product", 0, 0), ("out", 1, 1), ("next",), ("kept", 1)))
        self.assertEqual(places(("setting", 7, 3, 0), rows), (((),), ((), (), ()), (), (), ((), (), ())))
        self.assertEqual(coins_of(("setting", 7, 3, 0), rows), 0)
        self.assertEqual(places(("setting", 2, 1, 0), rows), (((),), ((),), (), (), ((),)))
        self.assertEqual(coins_of(("setting", 2, 1, 0), rows), 0)

    def test_no_coins(self):
        rows = ("program", (("const", 1), ("sum", 0, 0), ("out", 1, 2)))
        self.assertEqual(places(("setting", 7, 3, 1), rows), ((), (), ()))
        self.assertEqual(coins_of(("setting", 7, 3, 1), rows), 0)

    def test_the_places_stand_one_behind_the_other(self):
        for setting in SETTINGS:
            _, _, n, t = setting
            found = places(setting, PROGRAM)
            self.assertEqual(len(found), len(ROWS))
            for row, own in zip(ROWS, found):
                many = {"in": 1, "product": n, "kept": n}.get(row[0], 0)
                self.assertEqual([len(some) for some in own], [t] * many)
            flat = [place for own in found for some in own for place in some]
            self.assertEqual(flat, list(range(coins_of(setting, PROGRAM))))
            self.assertEqual(coins_of(setting, PROGRAM), 2 * t + 3 * n * t)

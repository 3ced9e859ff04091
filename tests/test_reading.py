"""r1, r2 and the interface: untold/reading.py."""

import unittest
from itertools import combinations

from tests.oracle import all_polys, numbers, plain_value
from untold.reading import read, readings, twins, wrong
from untold.sharing import shares


def true_row(setting, poly):
    """The values of a polynomial at all parties."""
    _, p, n, _ = setting
    return tuple(plain_value(p, poly, party) for party in range(1, n + 1))


def spoiled(p, row, parties):
    """The row with other shares for these parties."""
    return tuple((share + party) % p if party in parties else share for party, share in enumerate(row, start=1))


def settings_of(p):
    """All settings with this prime."""
    return [("setting", p, n, t) for n in range(1, min(10, p)) for t in range((n - 1) // 2 + 1)]


class WorkedExample(unittest.TestCase):
    def test_it(self):
        setting = ("setting", 11, 4, 1)
        row = (8, 9, 3, 6)
        self.assertEqual(read(setting, row), 5)
        self.assertEqual(readings(setting, row, 1), ((5, 3),))
        self.assertEqual(wrong(setting, row, (5, 3)), (2,))


class Wrong(unittest.TestCase):
    def test_none_some_and_all(self):
        setting = ("setting", 11, 9, 4)
        poly = (3, 1, 4, 1, 5)
        row = true_row(setting, poly)
        self.assertEqual(wrong(setting, row, poly), ())
        for parties in ((1,), (9,), (2, 5, 8), tuple(range(1, 10))):
            self.assertEqual(wrong(setting, spoiled(11, row, parties), poly), parties)
        self.assertEqual(wrong(("setting", 2, 1, 0), (1,), (0,)), (1,))


class Readings(unittest.TestCase):
    def hold(self, setting, row):
        """readings and read are right for a row, held against trying all polynomials."""
        _, p, n, t = setting
        counts = {poly: len(wrong_by_trying(p, row, poly)) for poly in all_polys(p, t + 1)}
        for e in range(n - t):
            right = tuple(poly for poly in all_polys(p, t + 1) if counts[poly] <= e)
            self.assertEqual(readings(setting, row, e), right, (setting, row, e))
            if n >= t + 1 + 2 * e:
                self.assertLessEqual(len(right), 1)
        few = [poly for poly in counts if counts[poly] <= (n - t - 1) // 2]
        self.assertEqual(read(setting, row), few[0][0] if few else None, (setting, row))

    def test_all_rows_for_a_small_p(self):
        for setting in (*settings_of(2), *settings_of(3), ("setting", 5, 4, 0), ("setting", 5, 4, 1)):
            for row in all_polys(setting[1], setting[2]):
                self.hold(setting, row)

    def test_some_rows_for_more_parties(self):
        for setting in (("setting", 7, 5, 2), ("setting", 7, 6, 2), ("setting", 11, 9, 2), ("setting", 11, 9, 0)):
            for seed in range(12):
                self.hold(setting, numbers(seed, setting[1], setting[2]))

    def test_none_and_several_ascending(self):
        setting = ("setting", 5, 4, 1)
        self.assertEqual(readings(setting, (0, 0, 1, 1), 1), ())
        self.assertIsNone(read(setting, (0, 0, 1, 1)))
        found = readings(setting, (0, 0, 1, 1), 2)
        self.assertGreater(len(found), 2)
        self.assertEqual(found, tuple(sorted(found)))
        self.assertIn((0, 0), found)
        self.assertIn((1, 0), found)

    def test_so_many_wrong_shares_as_can_be_read_through(self):
        for setting in (*settings_of(11), ("setting", 10007, 9, 4), ("setting", 10007, 9, 0)):
            _, p, n, t = setting
            poly = numbers(n * 10 + t, p, t + 1)
            row = true_row(setting, poly)
            most = (n - t - 1) // 2
            for many in (0, most):
                for parties in list(combinations(range(1, n + 1), many))[:8]:
                    other = spoiled(p, row, parties)
                    self.assertEqual(read(setting, other), poly[0], (setting, other))
                    self.assertEqual(readings(setting, other, most), (poly,))

    def test_one_wrong_share_more(self):
        for n, t in ((9, 4), (9, 2), (7, 3), (4, 1), (3, 0)):
            setting = ("setting", 10007, n, t)
            poly = numbers(n, 10007, t + 1)
            most = (n - t - 1) // 2
            other = spoiled(10007, true_row(setting, poly), tuple(range(1, most + 2)))
            self.assertNotIn(poly, readings(setting, other, most))
            self.assertIn(poly, readings(setting, other, most + 1))

    def test_one_party(self):
        self.assertEqual(readings(("setting", 2, 1, 0), (1,), 0), ((1,),))
        self.assertEqual(read(("setting", 10007, 1, 0), (10006,)), 10006)

    def test_shares_are_read(self):
        setting = ("setting", 10007, 9, 4)
        self.assertEqual(read(setting, shares(setting, 4321, (1, 2, 3, 4))), 4321)


class Twins(unittest.TestCase):
    def hold(self, setting, e):
        """There are twins on just the one side of the bound, and they are right ones."""
        _, p, n, t = setting
        found = twins(setting, e)
        if n >= t + 1 + 2 * e:
            self.assertIsNone(found, (setting, e))
            return
        row, first, second = found
        for part, many in ((row, n), (first, t + 1), (second, t + 1)):
            self.assertIsInstance(part, tuple)
            self.assertEqual(len(part), many)
            self.assertTrue(all(0 <= number < p for number in part))
        self.assertNotEqual(first[0], second[0])
        for poly in (first, second):
            self.assertLessEqual(len(wrong_by_trying(p, row, poly)), e, (setting, e))
            if e <= n - t - 1:
                self.assertIn(poly, readings(setting, row, e))

    def test_each_e(self):
        for p in (2, 3, 5, 7, 11, 10007):
            for setting in settings_of(p):
                for e in range(10):
                    self.hold(setting, e)


def wrong_by_trying(p, row, poly):
    """The parties whose share is not the value of the polynomial."""
    return [party for party, share in enumerate(row, start=1) if plain_value(p, poly, party) != share]

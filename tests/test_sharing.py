"""s1 to s3 and the interface: untold/sharing.py."""

import unittest

from tests.oracle import all_polys, choices, numbers, plain_value
from untold.errors import BadSetting
from untold.sharing import check_setting, shares, told, ways

SMALL = (("setting", 5, 4, 1), ("setting", 3, 2, 0), ("setting", 7, 5, 2), ("setting", 2, 1, 0))


class CheckSetting(unittest.TestCase):
    def accept(self, *items):
        self.assertIsNone(check_setting(("setting", *items)))

    def refuse(self, thing):
        with self.assertRaises(BadSetting, msg=repr(thing)) as caught:
            check_setting(thing)
        self.assertIs(caught.exception.__class__, BadSetting)

    def test_p(self):
        self.accept(2, 1, 0)
        self.accept(10007, 9, 4)
        self.accept(10007, 1, 0)
        for p in (10009, 1, 0, -1, -7, 4, 9, 15, 10006, 10005, 9409, 10 ** 9 + 7, 10 ** 40):
            self.refuse(("setting", p, 1, 0))

    def test_n(self):
        for n in range(1, 10):
            self.accept(11, n, 0)
        self.refuse(("setting", 11, 10, 0))
        self.refuse(("setting", 11, 0, 0))
        self.refuse(("setting", 11, -1, 0))
        self.refuse(("setting", 11, 0, -1))

    def test_n_less_than_p(self):
        for p in (2, 3, 5, 7):
            self.accept(p, p - 1, 0)
            self.refuse(("setting", p, p, 0))
            self.refuse(("setting", p, p + 1, 0))

    def test_t(self):
        for n in range(1, 10):
            most = (n - 1) // 2
            for t in range(most + 1):
                self.accept(101, n, t)
            self.refuse(("setting", 101, n, most + 1))
            self.refuse(("setting", 101, n, -1))

    def test_shapes(self):
        for thing in (
            None, "setting", "", 0, 7, True, False, (), [], ("setting",), ("setting", 7), ("setting", 7, 3),
            ("setting", 7, 3, 1, 1), ("setting", 7, 3, 1, None), ["setting", 7, 3, 1], (7, 3, 1), (7, 3, 1, "setting"),
            ("settings", 7, 3, 1), ("Setting", 7, 3, 1), ("", 7, 3, 1), (None, 7, 3, 1), (0, 7, 3, 1),
            (("setting",), 7, 3, 1), (["setting"], 7, 3, 1), (("setting", 7, 3, 1),), "abcd",
        ):
            self.refuse(thing)

    def test_items_that_are_no_integers(self):
        right = ("setting", 7, 3, 1)
        for place in (1, 2, 3):
            for item in (True, False, None, "7", "", (1,), [1], (), []):
                self.refuse(right[:place] + (item,) + right[place + 1:])
        self.refuse(("setting", 7, True, False))
        self.refuse(("setting", 7, True, 0))
        self.refuse(("setting", 7, 3, False))

    def test_a_list_that_is_handed_stays(self):
        thing = ["setting", 7, 3, 1]
        self.refuse(thing)
        self.assertEqual(thing, ["setting", 7, 3, 1])


class Shares(unittest.TestCase):
    def test_worked_example(self):
        setting = ("setting", 11, 4, 1)
        self.assertEqual(shares(setting, 5, (3,)), (8, 0, 3, 6))
        self.assertEqual(ways(setting, ((2, 0),), 7), 1)
        self.assertEqual(told(setting, ((1, 8), (2, 0))), 5)

    def test_t_0(self):
        self.assertEqual(shares(("setting", 7, 3, 0), 4, ()), (4, 4, 4))
        self.assertEqual(shares(("setting", 2, 1, 0), 1, ()), (1,))

    def test_values_of_the_polynomial(self):
        for _, p, n, t in (("setting", 10007, 9, 4), ("setting", 11, 9, 3), ("setting", 101, 7, 2)):
            for seed in range(5):
                poly = numbers(seed, p, t + 1)
                right = tuple(plain_value(p, poly, party) for party in range(1, n + 1))
                self.assertEqual(shares(("setting", p, n, t), poly[0], poly[1:]), right)


class Known(unittest.TestCase):
    def hold(self, setting, known):
        """ways and told are right for known shares, held against trying all coins."""
        _, p, _, t = setting
        fits = [
            poly[0]
            for poly in all_polys(p, t + 1)
            if all(plain_value(p, poly, party) == share for party, share in known)
        ]
        for s in range(p):
            self.assertEqual(ways(setting, known, s), fits.count(s), (setting, known, s))
        right = fits[0] if len(known) > t and fits else None
        self.assertEqual(told(setting, known), right, (setting, known))

    def test_right_shares(self):
        for setting in SMALL:
            _, p, n, t = setting
            for parties in choices(range(1, n + 1), n):
                poly = numbers(len(parties), p, t + 1)
                self.hold(setting, tuple((party, plain_value(p, poly, party)) for party in parties))

    def test_any_shares(self):
        for setting in SMALL:
            _, p, n, _ = setting
            for at, parties in enumerate(choices(range(1, n + 1), n)):
                self.hold(setting, tuple(zip(parties, numbers(at, p, n))))

    def test_none_known(self):
        setting = ("setting", 10007, 9, 4)
        self.assertEqual(ways(setting, (), 3), 10007 ** 4)
        self.assertIsNone(told(setting, ()))
        self.assertEqual(ways(("setting", 7, 3, 0), (), 3), 1)
        self.assertIsNone(told(("setting", 7, 3, 0), ()))

    def test_t_known_fit_any_number(self):
        setting = ("setting", 10007, 9, 4)
        known = ((2, 5), (3, 10006), (5, 0), (9, 1))
        for s in (0, 1, 5003, 10006):
            self.assertEqual(ways(setting, known, s), 1)
            self.assertEqual(ways(setting, known[:3], s), 10007)
        self.assertIsNone(told(setting, known))

    def test_t_and_1_and_n_known(self):
        setting = ("setting", 10007, 9, 4)
        row = shares(setting, 77, (1, 2, 3, 4))
        known = tuple(enumerate(row, start=1))
        for some in (known, known[:5], known[4:], known[1:9:2] + known[8:]):
            self.assertEqual(told(setting, some), 77)
            self.assertEqual([ways(setting, some, s) for s in (76, 77, 78)], [0, 1, 0])

    def test_shares_that_fit_no_number(self):
        setting = ("setting", 11, 4, 1)
        known = ((1, 8), (2, 0), (4, 7))
        self.assertIsNone(told(setting, known))
        self.assertEqual([ways(setting, known, s) for s in range(11)], [0] * 11)
        setting = ("setting", 7, 3, 0)
        self.assertIsNone(told(setting, ((1, 2), (3, 4))))
        self.assertEqual(ways(setting, ((1, 2), (3, 4)), 2), 0)
        self.assertEqual(told(setting, ((3, 4),)), 4)

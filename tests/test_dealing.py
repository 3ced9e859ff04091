"""w1 to w5 and the interface: untold/dealing.py."""

import unittest
from itertools import combinations, product

from tests.oracle import choices, numbers, plain_value, plain_veil
from untold.dealing import agreeing, core, lines, square, square_of, veiled
from untold.polys import value_at
from untold.sharing import shares

SETTINGS = [("setting", *rest) for rest in (
    (2, 1, 0), (3, 2, 0), (5, 3, 0), (5, 3, 1), (5, 4, 1), (7, 5, 2), (7, 6, 2), (11, 7, 2), (11, 7, 3), (11, 9, 2),
    (11, 9, 4), (10007, 9, 4), (10007, 8, 2),
)]


def many_coins(t):
    return (t + 1) * (t + 2) // 2 - 1


def some_square(setting, seed):
    """A square of a setting that hangs on the seed alone."""
    _, p, _, t = setting
    return square(setting, seed % p, numbers(seed, p, many_coins(t)))


def spoiled(setting, right, some, seed):
    """The lines with others for some parties: each number moved by what hangs on the seed, not all by 0."""
    p, t = setting[1], setting[3]
    found = list(right)
    for party in some:
        steps = numbers(seed + 31 * party, p, t + 1)
        steps = steps if any(steps) else (1,) * (t + 1)
        found[party - 1] = tuple((x + step) % p for x, step in zip(right[party - 1], steps))
    return tuple(found)


class WorkedExample(unittest.TestCase):
    def test_it(self):
        setting = ("setting", 7, 3, 1)
        self.assertEqual(square(setting, 5, (1, 2)), ((5, 1), (1, 2)))
        self.assertEqual(lines(setting, ((5, 1), (1, 2))), ((6, 3), (0, 5), (1, 0)))
        self.assertEqual(core(("setting", 7, 4, 1), ((6, 3), (0, 5), (1, 1), (2, 2))), (1, 2, 4))


class Squares(unittest.TestCase):
    def test_where_the_coins_stand(self):
        self.assertEqual(square(("setting", 7, 3, 0), 5, ()), ((5,),))
        self.assertEqual(square(("setting", 7, 5, 2), 6, (1, 2, 3, 4, 5)), ((6, 1, 2), (1, 3, 4), (2, 4, 5)))
        right = ((0, 1, 2, 3), (1, 4, 5, 6), (2, 5, 7, 8), (3, 6, 8, 9))
        self.assertEqual(square(("setting", 11, 7, 3), 0, (1, 2, 3, 4, 5, 6, 7, 8, 9)), right)
        found = square(("setting", 10007, 9, 4), 100, tuple(range(1, 15)))
        self.assertEqual(found[0], (100, 1, 2, 3, 4))
        self.assertEqual(found[4], (4, 8, 11, 13, 14))

    def test_both_ways_the_same(self):
        for setting in SETTINGS:
            t = setting[3]
            for seed in range(5):
                found = some_square(setting, seed)
                self.assertEqual([len(row) for row in found], [t + 1] * (t + 1))
                for j, k in product(range(t + 1), repeat=2):
                    self.assertEqual(found[j][k], found[k][j])

    def test_other_coins_another_square(self):
        setting = ("setting", 2, 1, 0)
        self.assertEqual([square(setting, s, ()) for s in (0, 1)], [((0,),), ((1,),)])
        setting = ("setting", 5, 3, 1)
        found = {square(setting, s, coins) for s in range(5) for coins in product(range(5), repeat=2)}
        self.assertEqual(len(found), 125)


class Lines(unittest.TestCase):
    def test_the_words_of_the_document(self):
        for setting in SETTINGS:
            _, p, n, t = setting
            for seed in range(8):
                rows = some_square(setting, seed)
                right = tuple(
                    tuple(sum(rows[j][k] * i ** k for k in range(t + 1)) % p for j in range(t + 1))
                    for i in range(1, n + 1)
                )
                self.assertEqual(lines(setting, rows), right)

    def test_the_shares_are_those_of_the_number(self):
        for setting in SETTINGS:
            for seed in range(8):
                rows = some_square(setting, seed)
                found = tuple(line[0] for line in lines(setting, rows))
                self.assertEqual(found, shares(setting, rows[0][0], rows[0][1:]))

    def test_lines_of_one_square_agree_everywhere(self):
        for setting in SETTINGS:
            n = setting[2]
            for seed in range(8):
                found = lines(setting, some_square(setting, seed))
                self.assertEqual(agreeing(setting, found), tuple(combinations(range(1, n + 1), 2)))
                self.assertEqual(core(setting, found), tuple(range(1, n + 1)))


class Agreeing(unittest.TestCase):
    def test_by_hand(self):
        # Lines of the worked example: the value of 1's at 3 is 6 + 9, of 3's at 1 it is 1 + 1.
        setting = ("setting", 7, 4, 1)
        found = agreeing(setting, ((6, 3), (0, 5), (1, 1), (2, 2)))
        self.assertEqual(found, ((1, 2), (1, 4), (2, 4)))

    def test_the_words_of_the_document(self):
        for setting in SETTINGS:
            _, p, n, _ = setting
            for seed in range(20):
                some = numbers(seed, n, 3)
                found = spoiled(setting, lines(setting, some_square(setting, seed)), [x + 1 for x in some], seed)
                right = tuple(
                    (i, j) for i, j in combinations(range(1, n + 1), 2)
                    if plain_value(p, found[i - 1], j) == plain_value(p, found[j - 1], i)
                )
                self.assertEqual(agreeing(setting, found), right)

    def test_one_party(self):
        self.assertEqual(agreeing(("setting", 2, 1, 0), ((1,),)), ())

    def test_none_agree(self):
        self.assertEqual(agreeing(("setting", 5, 3, 0), ((1,), (2,), (3,))), ())
        self.assertEqual(agreeing(("setting", 5, 4, 0), ((1,), (2,), (1,), (2,))), ((1, 3), (2, 4)))


class Core(unittest.TestCase):
    def by_trying(self, setting, found):
        """The first as a tuple of the greatest of all sets of parties that agree."""
        n = setting[2]
        pairs = set(agreeing(setting, found))
        sets = [some for some in choices(range(1, n + 1), n) if all(pair in pairs for pair in combinations(some, 2))]
        most = max(len(some) for some in sets)
        return min(some for some in sets if len(some) == most)

    def test_of_several_the_first(self):
        setting = ("setting", 5, 4, 0)
        self.assertEqual(core(setting, ((1,), (2,), (3,), (4,))), (1,))
        self.assertEqual(core(setting, ((1,), (2,), (2,), (1,))), (1, 4))
        self.assertEqual(core(setting, ((1,), (2,), (2,), (3,))), (2, 3))
        self.assertEqual(core(("setting", 7, 5, 0), ((1,), (2,), (2,), (1,), (0,))), (1, 4))
        self.assertEqual(core(("setting", 7, 5, 0), ((0,), (2,), (1,), (1,), (2,))), (2, 5))

    def test_one_party(self):
        self.assertEqual(core(("setting", 2, 1, 0), ((1,),)), (1,))

    def test_all_lines_of_a_small_setting(self):
        setting = ("setting", 3, 2, 0)
        for found in product(product(range(3), repeat=1), repeat=2):
            self.assertEqual(core(setting, found), self.by_trying(setting, found))

    def test_any_lines(self):
        for setting in SETTINGS:
            _, p, n, t = setting
            for seed in range(25):
                flat = numbers(seed, min(p, 3), n * (t + 1))
                found = tuple(flat[i * (t + 1):(i + 1) * (t + 1)] for i in range(n))
                self.assertEqual(core(setting, found), self.by_trying(setting, found), (setting, found))

    def test_two_squares(self):
        for setting in SETTINGS:
            n = setting[2]
            one, two = (lines(setting, some_square(setting, seed)) for seed in (3, 4))
            for mixed in range(2 ** min(n, 5)):
                found = tuple(one[i] if mixed >> i & 1 else two[i] for i in range(n))
                self.assertEqual(core(setting, found), self.by_trying(setting, found))

    def test_at_most_t_lines_changed(self):
        # n is at least 3 t + 1: the core has n - t parties at least, and leads back to the square that was dealt.
        for setting in SETTINGS:
            _, _, n, t = setting
            if n < 3 * t + 1:
                continue
            for seed in range(6):
                rows = some_square(setting, seed)
                for some in choices(range(1, n + 1), t):
                    found = spoiled(setting, lines(setting, rows), some, seed)
                    answer = core(setting, found)
                    self.assertEqual(answer, self.by_trying(setting, found))
                    self.assertGreaterEqual(len(answer), n - t)
                    self.assertEqual(square_of(setting, found, answer), rows)

    def test_the_changed_lines_may_agree_with_one_another(self):
        # They are those of another square, at parties 1 to t.
        for setting in SETTINGS:
            _, _, n, t = setting
            if n < 3 * t + 1:
                continue
            rows, other = some_square(setting, 1), some_square(setting, 2)
            found = lines(setting, other)[:t] + lines(setting, rows)[t:]
            answer = core(setting, found)
            self.assertGreaterEqual(len(answer), n - t)
            self.assertEqual(square_of(setting, found, answer), rows)


class SquareOf(unittest.TestCase):
    def test_any_parties_of_one_square(self):
        for setting in SETTINGS:
            _, _, n, t = setting
            for seed in range(3):
                rows = some_square(setting, seed)
                found = lines(setting, rows)
                for many in range(t + 1, n + 1):
                    for some in list(combinations(range(1, n + 1), many))[:12]:
                        self.assertEqual(square_of(setting, found, some), rows)

    def test_just_one_square_has_the_lines(self):
        setting = ("setting", 5, 3, 1)
        squares = [square(setting, s, coins) for s in range(5) for coins in product(range(5), repeat=2)]
        for flat in product(range(5), repeat=4):
            found = (flat[:2], flat[2:], (0, 0))
            right = [rows for rows in squares if lines(setting, rows)[:2] == found[:2]]
            answer = square_of(setting, found, (1, 2))
            agree = value_at(5, found[0], 2) == value_at(5, found[1], 1)
            self.assertEqual(len(right), 1 if agree else 0)
            self.assertEqual(answer, right[0] if right else None)

    def test_where_two_do_not_agree(self):
        setting = ("setting", 7, 4, 1)
        found = ((6, 3), (0, 5), (1, 1), (2, 2))
        for some in ((1, 3), (2, 3), (3, 4), (1, 2, 3), (1, 3, 4), (2, 3, 4), (1, 2, 3, 4)):
            self.assertIsNone(square_of(setting, found, some), some)
        for some in ((1, 2), (1, 4), (2, 4), (1, 2, 4)):
            self.assertEqual(square_of(setting, found, some), ((5, 1), (1, 2)))

    def test_the_last_of_many_does_not_agree(self):
        for setting in SETTINGS:
            _, p, n, t = setting
            if n == t + 1:
                continue
            found = list(lines(setting, some_square(setting, 2)))
            found[-1] = ((found[-1][0] + 1) % p, *found[-1][1:])
            self.assertIsNone(square_of(setting, tuple(found), tuple(range(1, n + 1))))
            self.assertEqual(square_of(setting, tuple(found), tuple(range(1, n))), some_square(setting, 2))


class Veiled(unittest.TestCase):
    def test_by_hand(self):
        # The veil of party 3 is (1, 2).
        setting = ("setting", 7, 3, 1)
        self.assertEqual(veiled(setting, ((5, 1), (1, 2)), 3, (3,)), ((1, 0), (0, 0)))
        self.assertEqual(veiled(setting, ((5, 1), (1, 2)), 0, (3,)), ((5, 1), (1, 2)))
        # Without watched parties the veil is that of party 1, (1, 6).
        self.assertEqual(veiled(setting, ((5, 1), (1, 2)), 3, ()), ((1, 5), (5, 5)))
        self.assertEqual(veiled(setting, ((5, 1), (1, 2)), 3, (1,)), ((1, 5), (5, 5)))
        self.assertEqual(veiled(("setting", 7, 3, 0), ((5,),), 4, ()), ((2,),))
        self.assertEqual(veiled(("setting", 2, 1, 0), ((1,),), 1, ()), ((0,),))

    def hold(self, setting, seed, d, some):
        _, p, n, t = setting
        rows = some_square(setting, seed)
        found = veiled(setting, rows, d, some)
        poly = plain_veil(setting, some)
        right = tuple(tuple((rows[j][k] + d * poly[j] * poly[k]) % p for k in range(t + 1)) for j in range(t + 1))
        self.assertEqual(found, right)
        self.assertEqual(found[0][0], (rows[0][0] + d) % p)
        hidden_from = [*some, *[party for party in range(1, n + 1) if party not in some]][:t]
        before, after = lines(setting, rows), lines(setting, found)
        for party in hidden_from:
            self.assertEqual(before[party - 1], after[party - 1])
        self.assertEqual(veiled(setting, found, -d % p, some), rows)

    def test_the_words_of_the_document(self):
        for setting in SETTINGS:
            _, p, n, t = setting
            for seed, some in enumerate(choices(range(1, n + 1), t)):
                for d in (0, 1, p - 1, seed % p):
                    self.hold(setting, seed, d, some)

    def test_each_square_with_one_number_is_met_once_by_another(self):
        setting = ("setting", 5, 3, 1)
        for some in ((), (1,), (2,), (3,)):
            found = {veiled(setting, square(setting, 2, coins), 3, some) for coins in product(range(5), repeat=2)}
            self.assertEqual(found, {square(setting, 0, coins) for coins in product(range(5), repeat=2)})

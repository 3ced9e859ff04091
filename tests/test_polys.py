"""f2 to f4 and the interface: untold/polys.py."""

import unittest
from itertools import permutations

from tests.oracle import all_polys, numbers, plain_value
from untold.polys import added, scaled, through, value_at, veil, weights


class ValueAt(unittest.TestCase):
    def test_told_values(self):
        self.assertEqual(value_at(7, (1, 2, 3), 2), 17 % 7)
        self.assertEqual(value_at(7, (4,), 5), 4)
        self.assertEqual(value_at(7, (4, 1, 6), 0), 4)
        self.assertEqual([value_at(2, (1, 1), x) for x in (0, 1)], [1, 0])

    def test_1_to_20_numbers(self):
        for p in (2, 3, 11, 10007):
            for many in (1, 2, 5, 19, 20):
                poly = numbers(many, p, many)
                for x in {0, 1, p // 2, p - 1}:
                    self.assertEqual(value_at(p, poly, x), plain_value(p, poly, x), (p, many, x))

    def test_all_numbers_greatest(self):
        self.assertEqual(value_at(10007, (10006,) * 20, 10006), 0)
        self.assertEqual(value_at(10007, (10006,) * 19, 10006), 10006)


class Sums(unittest.TestCase):
    def test_beyond_p(self):
        self.assertEqual(added(7, (6, 5, 0), (6, 2, 0)), (5, 0, 0))
        self.assertEqual(scaled(7, 6, (6, 3, 0)), (1, 4, 0))
        self.assertEqual(added(2, (1,), (1,)), (0,))
        self.assertEqual(added(10007, (10006,) * 20, (10006,) * 20), (10005,) * 20)
        self.assertEqual(scaled(10007, 10006, (10006,) * 20), (1,) * 20)
        self.assertEqual(scaled(7, 0, (1, 2)), (0, 0))

    def test_values_add_up(self):
        for p in (2, 5, 10007):
            one, other = numbers(1, p, 6), numbers(2, p, 6)
            for x in range(min(p, 8)):
                here, there = plain_value(p, one, x), plain_value(p, other, x)
                self.assertEqual(plain_value(p, added(p, one, other), x), (here + there) % p)
                self.assertEqual(plain_value(p, scaled(p, p - 1, one), x), -here % p)


class Through(unittest.TestCase):
    def test_the_only_one_for_a_small_p(self):
        for points in ((3,), (0, 2), (4, 1), (2, 0, 1), (4, 3, 1)):
            for values in all_polys(5, len(points)):
                right = [
                    poly
                    for poly in all_polys(5, len(points))
                    if all(plain_value(5, poly, x) == y for x, y in zip(points, values))
                ]
                self.assertEqual([through(5, points, values)], right)

    def test_p_2(self):
        self.assertEqual(through(2, (1, 0), (0, 1)), (1, 1))
        self.assertEqual(through(2, (0,), (1,)), (1,))

    def test_19_points_in_no_order(self):
        for p in (19, 23, 10007):
            points = tuple(7 * k % 19 * (p // 19) for k in range(19))
            poly = numbers(p, p, 19)
            values = tuple(plain_value(p, poly, x) for x in points)
            self.assertEqual(through(p, points, values), poly)

    def test_as_many_numbers_as_points(self):
        self.assertEqual(through(11, (1, 2, 3), (0, 0, 0)), (0, 0, 0))
        self.assertEqual(through(11, (5, 2, 9), (4, 4, 4)), (4, 0, 0))


class Weights(unittest.TestCase):
    def hold(self, p, points, x, many):
        """Weights are right for a polynomial of so many numbers."""
        poly = numbers(p + x + many, p, many)
        found = weights(p, points, x)
        self.assertIsInstance(found, tuple)
        self.assertEqual(len(found), len(points))
        self.assertTrue(all(0 <= w < p for w in found))
        total = sum(w * plain_value(p, poly, point) for w, point in zip(found, points))
        self.assertEqual(total % p, plain_value(p, poly, x), (p, points, x, many))

    def test_fewer_numbers_and_as_many(self):
        for points in ((1,), (2, 1), (1, 2, 3, 4, 5), (4, 10, 1, 7)):
            for x in range(11):
                for many in range(1, len(points) + 1):
                    self.hold(11, points, x, many)

    def test_19_points(self):
        points = tuple(5 * k % 19 + 1 for k in range(19))
        for many in (1, 2, 18, 19):
            self.hold(10007, points, 0, many)
            self.hold(10007, points, 9999, many)

    def test_x_is_a_point(self):
        for points in permutations((0, 2, 5)):
            for x in points:
                self.assertEqual(weights(7, points, x), tuple(int(point == x) for point in points))

    def test_the_only_row_for_a_small_p(self):
        points = (1, 3)
        for x in range(5):
            right = [
                row
                for row in all_polys(5, 2)
                if all(
                    sum(w * plain_value(5, poly, point) for w, point in zip(row, points)) % 5 == plain_value(5, poly, x)
                    for poly in all_polys(5, 2)
                )
            ]
            self.assertEqual([weights(5, points, x)], right)

    def test_p_2(self):
        self.assertEqual(weights(2, (1,), 0), (1,))
        self.assertEqual(weights(2, (0, 1), 1), (0, 1))


class Veil(unittest.TestCase):
    def test_without_points(self):
        self.assertEqual(veil(2, ()), (1,))
        self.assertEqual(veil(10007, ()), (1,))

    def test_1_at_0_and_0_at_the_points(self):
        sets = ((2, (1,)), (7, (3,)), (7, (6, 2)), (11, (1, 2, 3, 4)), (10007, (9, 1, 8, 2)), (10007, (10006, 5)))
        for p, points in (*sets, (23, tuple(range(19, 0, -1)))):
            poly = veil(p, points)
            self.assertEqual(len(poly), len(points) + 1)
            self.assertTrue(all(0 <= number < p for number in poly))
            self.assertEqual(plain_value(p, poly, 0), 1)
            self.assertEqual([plain_value(p, poly, x) for x in points], [0] * len(points))

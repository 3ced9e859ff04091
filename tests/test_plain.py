"""p3 and the interface: untold/plain.py."""

import unittest

from untold.plain import shown, values

SETTING = ("setting", 7, 3, 1)


def program(*rows):
    return ("program", rows)


class Values(unittest.TestCase):
    def test_each_kind(self):
        rows = program(
            ("in", 1), ("in", 3), ("const", 6), ("sum", 0, 1), ("less", 0, 1), ("product", 0, 1), ("times", 5, 1),
            ("out", 3, 2), ("next",), ("kept", 5), ("out", 9, 1),
        )
        self.assertEqual(values(SETTING, rows, (3, 5)), (3, 5, 6, 1, 5, 1, 4, None, None, 1, None))
        self.assertEqual(values(SETTING, rows, (0, 0)), (0, 0, 6, 0, 0, 0, 0, None, None, 0, None))

    def test_one_kind_by_itself(self):
        self.assertEqual(values(SETTING, program(("in", 2)), (6,)), (6,))
        self.assertEqual(values(SETTING, program(("const", 4)), ()), (4,))
        self.assertEqual(values(SETTING, program(("next",)), ()), (None,))

    def test_sums_differences_and_products_for_all_inputs(self):
        rows = program(("in", 1), ("in", 2), ("sum", 0, 1), ("less", 0, 1), ("less", 1, 0), ("product", 1, 0))
        for p, n in ((2, 1), (5, 4), (7, 3)):
            own = tuple(row if row[0] != "in" else ("in", min(row[1], n)) for row in rows[1])
            for a in range(p):
                for b in range(p):
                    right = (a, b, (a + b) % p, (a - b) % p, (b - a) % p, a * b % p)
                    self.assertEqual(values(("setting", p, n, 0), ("program", own), (a, b)), right)

    def test_the_greatest_p(self):
        rows = program(("in", 1), ("product", 0, 0), ("times", 10006, 0), ("sum", 0, 0), ("less", 1, 0))
        self.assertEqual(values(("setting", 10007, 9, 4), rows, (10006,)), (10006, 1, 1, 10005, 2))

    def test_inputs_are_taken_in_the_order_of_the_rows(self):
        rows = program(("in", 3), ("const", 1), ("in", 1), ("next",), ("in", 3), ("in", 2))
        self.assertEqual(values(SETTING, rows, (2, 3, 4, 5)), (2, 1, 3, None, 4, 5))

    def test_several_epochs(self):
        rows = program(
            ("in", 1), ("next",), ("kept", 0), ("in", 2), ("sum", 2, 3), ("next",), ("kept", 4), ("kept", 3),
            ("product", 6, 7), ("next",), ("kept", 8), ("times", 2, 10), ("out", 11, 3),
        )
        self.assertEqual(values(SETTING, rows, (3, 5)), (3, None, 3, 5, 1, None, 1, 5, 5, None, 5, 3, None))


class Shown(unittest.TestCase):
    def test_no_row_out(self):
        self.assertEqual(shown(SETTING, program(("in", 1)), (2,)), ())

    def test_one(self):
        rows = program(("in", 1), ("in", 2), ("product", 0, 1), ("out", 2, 3))
        self.assertEqual(shown(SETTING, rows, (2, 3)), ((3, 3, 6),))
        self.assertEqual(shown(SETTING, rows, (4, 5)), ((3, 3, 6),))

    def test_several_over_epochs(self):
        rows = program(
            ("in", 1), ("out", 0, 3), ("out", 0, 1), ("const", 4), ("out", 3, 2), ("next",), ("kept", 0),
            ("times", 2, 6), ("out", 7, 1), ("out", 6, 1),
        )
        self.assertEqual(shown(SETTING, rows, (5,)), ((1, 3, 5), (2, 1, 5), (4, 2, 4), (8, 1, 3), (9, 1, 5)))

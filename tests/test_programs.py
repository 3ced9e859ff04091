"""p1, p2 and the interface: untold/programs.py."""

import unittest

from untold.errors import BadProgram
from untold.programs import check_program, epoch_of, epochs, input_rows, output_rows

SETTING = ("setting", 7, 3, 1)
NEXT = ("next",)

EACH_KIND = (
    ("in", 1), ("const", 6), ("sum", 0, 1), ("less", 2, 0), ("product", 3, 3), ("times", 0, 4), ("out", 5, 3),
    NEXT, ("kept", 5), ("in", 3), ("product", 8, 9), ("out", 10, 1), ("out", 8, 1), NEXT, ("kept", 10),
    ("kept", 8), ("sum", 14, 15), ("out", 16, 2),
)


class Programs(unittest.TestCase):
    def accept(self, *rows, setting=SETTING):
        self.assertIsNone(check_program(setting, ("program", rows)), rows)

    def refuse_whole(self, thing, reason, line=0, setting=SETTING):
        with self.assertRaises(BadProgram, msg=repr(thing)) as caught:
            check_program(setting, thing)
        self.assertIs(caught.exception.__class__, BadProgram)
        self.assertEqual((caught.exception.line, caught.exception.reason), (line, reason), thing)

    def refuse(self, reason, line, *rows, setting=SETTING):
        self.refuse_whole(("program", rows), reason, line, setting)

    def refuse_last(self, reason, *rows, setting=SETTING):
        self.refuse(reason, len(rows), *rows, setting=setting)


class Right(Programs):
    def test_each_kind(self):
        self.accept(*EACH_KIND)

    def test_each_row_by_itself(self):
        self.accept(("in", 3))
        self.accept(("const", 0))
        self.accept(NEXT)

    def test_a_wire_may_be_named_twice(self):
        self.accept(("const", 1), ("sum", 0, 0), ("out", 0, 1), ("out", 0, 1), NEXT, ("kept", 1), ("kept", 1))

    def test_bounds_of_p_and_n(self):
        self.accept(("in", 1), ("const", 1), ("times", 1, 0), ("out", 2, 1), setting=("setting", 2, 1, 0))
        self.accept(("in", 9), ("const", 10006), ("times", 10006, 0), setting=("setting", 10007, 9, 4))


class Whole(Programs):
    def test_other_shapes(self):
        rows = (("in", 1),)
        for thing in (
            None, "program", "", 0, 5, True, False, (), [], ("program",), (rows,), ("program", rows, rows),
            ["program", rows], ("program", list(rows)), ("program", []), ("programs", rows), ("", rows),
            (None, rows), (0, rows), (("program",), rows), (["program"], rows), (rows, "program"),
            ("program", None), ("program", "in"), ("program", 5), ("program", True),
        ):
            self.refuse_whole(thing, "not a program")

    def test_no_rows(self):
        self.refuse("no rows", 0)

    def test_60_and_61_rows(self):
        self.accept(*[("in", 1)] * 60)
        self.refuse("too many rows", 0, *[("in", 1)] * 61)

    def test_the_number_of_rows_is_looked_at_ahead_of_the_rows(self):
        self.refuse("too many rows", 0, *[("in", 0)] * 61)
        self.refuse("too many rows", 0, *[None] * 100)
        self.refuse("unknown row", 1, *[None] * 60)

    def test_lists_that_are_handed_stay(self):
        rows = [("in", 1), ["in", 1]]
        self.refuse_whole(("program", rows), "not a program")
        self.refuse_whole(("program", tuple(rows)), "unknown row", 2)
        self.assertEqual(rows, [("in", 1), ["in", 1]])


class UnknownRow(Programs):
    def test_no_tuple_or_no_word(self):
        for row in (
            None, "in", "", 3, True, [], ["in", 1], (), (1,), (1, 2), (None, 1), (True, 1), (("in",), 1),
            (["in"], 1), ([], 1), ("", 1), ("In", 1), ("in ", 1), ("add", 0, 0), ("program", 0), ("next ",),
        ):
            self.refuse("unknown row", 2, ("in", 1), row)

    def test_too_long_and_too_short(self):
        ahead = [("in", 1), NEXT, ("in", 1)]
        for row in (
            ("in", 1), ("const", 1), ("sum", 2, 2), ("less", 2, 2), ("product", 2, 2), ("times", 1, 2),
            ("out", 2, 1), NEXT, ("kept", 0),
        ):
            self.accept(*ahead, row)
            self.refuse_last("unknown row", *ahead, (*row, 0))
            self.refuse_last("unknown row", *ahead, (*row, 1))
            if row != NEXT:
                self.refuse_last("unknown row", *ahead, row[:-1])

    def test_items_that_are_no_integers(self):
        for row in (("in", 1), ("const", 1), ("sum", 0, 0), ("less", 0, 0), ("product", 0, 0), ("times", 1, 0),
                    ("out", 0, 1), ("kept", 0)):
            for place in range(1, len(row)):
                for item in (True, False, None, "0", "", (0,), [0], ()):
                    self.refuse_last("unknown row", ("in", 1), row[:place] + (item,) + row[place + 1:])


class Parties(Programs):
    def test_in(self):
        for party in (0, -1, 4, 10 ** 30):
            self.refuse_last("no such party", ("in", 1), ("in", party))
        self.accept(("in", 1), ("in", 2), ("in", 3))

    def test_out(self):
        for party in (0, -3, 4, 9):
            self.refuse_last("no such party", ("in", 1), ("out", 0, party))
        self.accept(("in", 1), ("out", 0, 1), ("out", 0, 2), ("out", 0, 3))

    def test_the_parties_are_those_of_the_setting(self):
        self.refuse_last("no such party", ("in", 2), setting=("setting", 7, 1, 0))
        self.accept(("in", 6), setting=("setting", 7, 6, 0))


class Numbers(Programs):
    def test_const(self):
        for c in (7, -1, 8, 10 ** 30, -7):
            self.refuse_last("no number", ("in", 1), ("const", c))
        for c in range(7):
            self.accept(("const", c))

    def test_times(self):
        for c in (7, -1, 8):
            self.refuse_last("no number", ("in", 1), ("times", c, 0))
        for c in range(7):
            self.accept(("in", 1), ("times", c, 0))

    def test_the_numbers_are_those_of_the_setting(self):
        self.refuse_last("no number", ("const", 2), setting=("setting", 2, 1, 0))
        self.accept(("const", 10006), setting=("setting", 10007, 1, 0))
        self.refuse_last("no number", ("const", 10007), setting=("setting", 10007, 1, 0))


def naming(a):
    """Rows of an epoch that name wire a, behind a row 0 that gives a wire of it."""
    two = [(word, *ends) for word in ("sum", "less", "product") for ends in ((a, 0), (0, a), (a, a))]
    return [*two, ("times", 3, a), ("out", a, 2)]


class Wires(Programs):
    def test_not_there(self):
        for a in (-1, -2, 5, 100, 10 ** 30):
            for row in naming(a):
                self.refuse_last("no such wire", ("in", 1), ("const", 2), row)

    def test_of_the_row_itself_and_of_a_later_one(self):
        for a in (2, 3):
            for row in naming(a):
                self.refuse("no such wire", 3, ("in", 1), ("const", 2), row, ("in", 1), ("in", 1))

    def test_of_a_row_that_gives_none(self):
        for row in naming(1):
            self.refuse_last("no such wire", ("in", 1), ("out", 0, 1), row)
        self.refuse_last("no such wire", ("in", 1), NEXT, ("out", 1, 1))
        self.refuse_last("no such wire", ("in", 1), NEXT, ("in", 1), ("sum", 2, 1))

    def test_of_another_epoch(self):
        for row in (("sum", 0, 2), ("less", 2, 0), ("product", 0, 0), ("times", 1, 0), ("out", 0, 1)):
            self.refuse_last("no such wire", ("in", 1), NEXT, ("kept", 0), row)
            self.refuse_last("no such wire", ("in", 1), NEXT, ("kept", 0), NEXT, row)

    def test_kept(self):
        self.accept(("in", 1), NEXT, ("kept", 0))
        self.accept(("in", 1), NEXT, ("kept", 0), NEXT, ("kept", 2))
        own = (("in", 1), NEXT, ("in", 1))
        self.refuse_last("no such wire", ("in", 1), ("kept", 0))
        self.refuse_last("no such wire", *own, ("kept", 2))
        self.refuse_last("no such wire", *own, NEXT, ("kept", 0))
        self.refuse_last("no such wire", *own, NEXT, ("kept", 4))
        self.accept(*own, NEXT, ("kept", 2))
        for a in (-1, -2, 1, 3, 4, 10 ** 30):
            self.refuse_last("no such wire", *own, ("kept", a))
        self.refuse_last("no such wire", ("in", 1), ("out", 0, 1), NEXT, ("kept", 1))
        self.refuse_last("no such wire", ("kept", 0))
        self.refuse_last("no such wire", ("kept", -1))


class Epochs(Programs):
    def test_6_and_7(self):
        self.accept(*[NEXT] * 5)
        self.refuse("too many epochs", 6, *[NEXT] * 6)
        self.refuse("too many epochs", 7, ("in", 1), *[NEXT] * 7)
        self.accept(*[("in", 1), NEXT] * 5, ("in", 2))

    def test_how_many(self):
        self.assertEqual(epochs(("program", (("in", 1),))), 1)
        self.assertEqual(epochs(("program", EACH_KIND)), 3)
        self.assertEqual(epochs(("program", (NEXT,) * 5)), 6)

    def test_epoch_of(self):
        program = ("program", EACH_KIND)
        self.assertEqual([epoch_of(program, k) for k in range(18)], [0] * 7 + [1] * 6 + [2] * 5)
        self.assertEqual([epoch_of(("program", (NEXT, NEXT)), k) for k in (0, 1)], [1, 2])

    def test_rows(self):
        program = ("program", EACH_KIND)
        self.assertEqual(input_rows(program), (0, 9))
        self.assertEqual(output_rows(program), (6, 11, 12, 17))
        self.assertEqual((input_rows(("program", (NEXT,))), output_rows(("program", (NEXT,)))), ((), ()))


class Order(Programs):
    def test_from_row_to_row(self):
        wrong = {
            "unknown row": ("in",), "no such party": ("in", 4), "no number": ("const", 7),
            "no such wire": ("times", 1, 50),
        }
        for reason, row in wrong.items():
            for other in wrong.values():
                self.refuse(reason, 2, ("in", 1), row, other, other)
            self.refuse(reason, 1, row, *[NEXT] * 6)
            self.refuse("too many epochs", 6, *[NEXT] * 6, row)

    def test_within_a_row(self):
        self.refuse("unknown row", 1, ("out", 50, 4, 0))
        self.refuse("unknown row", 1, ("out", 50, True))
        self.refuse("unknown row", 1, ("times", 7, None))
        self.refuse("no such party", 1, ("out", 50, 4))
        self.refuse("no such party", 1, ("out", -1, 0))
        self.refuse("no number", 1, ("times", 7, 50))
        self.refuse("no number", 1, ("times", -1, -1))
        self.refuse("no such wire", 1, ("times", 6, 0))
        self.refuse("no such wire", 1, ("out", 0, 3))

    def test_a_row_next_that_is_too_long_is_unknown(self):
        self.refuse("unknown row", 6, *[NEXT] * 5, ("next", 1))

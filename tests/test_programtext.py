"""a1, a2, p2 and the interface: untold/programtext.py."""

import unittest

from tests.oracle import some_program
from untold.errors import BadProgram
from untold.programs import check_program
from untold.programtext import format_program, read_program

SETTING = ("setting", 7, 3, 1)
NEXT = ("next",)
EACH_KIND = ("program", (
    ("in", 3), ("const", 6), ("sum", 0, 1), ("less", 2, 0), ("product", 3, 2), ("times", 0, 4), ("out", 5, 2), NEXT,
    ("kept", 5), NEXT, ("kept", 8), ("out", 10, 3),
))
ITS_LINES = (
    "w0 = input 3", "w1 = 6", "w2 = w0 + w1", "w3 = w2 - w0", "w4 = w3 * w2", "w5 = 0 * w4", "show w5 to 2", "next",
    "w8 = keep w5", "next", "w10 = keep w8", "show w10 to 3",
)


def text_of(*lines):
    return "".join(line + "\n" for line in lines)


class Texts(unittest.TestCase):
    def refuse(self, text, line, reason="unknown row", setting=SETTING):
        with self.assertRaises(BadProgram, msg=repr(text)) as caught:
            read_program(setting, text)
        self.assertIs(caught.exception.__class__, BadProgram)
        self.assertEqual((caught.exception.line, caught.exception.reason), (line, reason), text)


class Formats(Texts):
    def test_each_kind(self):
        self.assertEqual(format_program(EACH_KIND), text_of(*ITS_LINES))
        self.assertIsInstance(format_program(EACH_KIND), str)

    def test_the_items_stand_at_their_places(self):
        rows = (("in", 9), ("const", 10006), ("less", 1, 0), ("times", 523, 2), ("product", 0, 3), ("sum", 4, 1),
                ("out", 4, 8))
        right = ("w0 = input 9", "w1 = 10006", "w2 = w1 - w0", "w3 = 523 * w2", "w4 = w0 * w3", "w5 = w4 + w1",
                 "show w4 to 8")
        self.assertEqual(format_program(("program", rows)), text_of(*right))

    def test_many_rows(self):
        program = ("program", (("const", 0), *[("sum", k, 0) for k in range(59)]))
        lines = format_program(program).split("\n")
        self.assertEqual((lines[0], lines[9], lines[10], lines[11], lines[59], lines[60:]),
                         ("w0 = 0", "w9 = w8 + w0", "w10 = w9 + w0", "w11 = w10 + w0", "w59 = w58 + w0", [""]))

    def test_one_row(self):
        self.assertEqual(format_program(("program", (NEXT,))), "next\n")
        self.assertEqual(format_program(("program", (("in", 1),))), "w0 = input 1\n")


class ThereAndBack(Texts):
    def test_each_kind(self):
        for text in (text_of(*ITS_LINES), "\n".join(ITS_LINES)):
            answer = read_program(SETTING, text)
            self.assertEqual(answer, EACH_KIND)
            self.assertIsInstance(answer[1], tuple)
            self.assertTrue(all(isinstance(row, tuple) for row in answer[1]))

    def test_some_programs(self):
        for setting in (("setting", 2, 1, 0), SETTING, ("setting", 11, 5, 2), ("setting", 10007, 9, 4)):
            for seed in range(60):
                program = some_program(seed, setting, 3 + seed % 55)
                text = format_program(program)
                self.assertEqual(read_program(setting, text), program)
                self.assertEqual(read_program(setting, text[:-1]), program)

    def test_each_row_by_itself(self):
        self.assertEqual(read_program(SETTING, "next"), ("program", (NEXT,)))
        self.assertEqual(read_program(SETTING, "w0 = 5\n"), ("program", (("const", 5),)))
        self.assertEqual(read_program(SETTING, "w0 = input 2"), ("program", (("in", 2),)))


class WrongLines(Texts):
    def refuse_line(self, *lines):
        """Each of these, as a third line behind two right ones and ahead of a right one."""
        for line in lines:
            self.refuse(text_of("w0 = input 1", "w1 = 5", line, "next"), 3)
            if line:
                self.refuse(text_of("w0 = input 1", "w1 = 5", line)[:-1], 3)

    def test_words_left_out_put_in_doubled(self):
        for line in ("w2 = input 1", "w2 = 4", "w2 = w0 + w1", "w2 = w0 - w1", "w2 = w0 * w1", "w2 = 3 * w1",
                     "show w1 to 2", "next"):
            words = line.split(" ")
            read_program(SETTING, text_of("w0 = input 1", "w1 = 5", line))
            for k, word in enumerate(words):
                less = words[:k] + words[k + 1:]
                if less not in (["w2", "=", "1"], []):
                    self.refuse_line(" ".join(less))
                self.refuse_line(" ".join(words[:k] + [word] + words[k:]))
                for more in ("x", "w1", "1", "=", "-", "next"):
                    self.refuse_line(" ".join(words[:k] + [more] + words[k:]), line + " " + more)
        for line in ("w1 = keep w0 w0", "w1 = keep", "w1 = w0", "keep w0", "= keep w0", "w1 keep w0",
            "w1 = keep keep w0"):
            self.refuse(text_of("w0 = 1", "next", line), 3)

    def test_words_that_are_others(self):
        self.refuse_line(
            "w2 = Input 1", "w2 = inputs 1", "w2 = inpu 1", "w2 == 4", "w2 : 4", "w2 = w0 / w1", "w2 = w0 ** w1",
            "w2 = w0 +- w1", "w2 = w0 = w1", "Show w1 to 2", "show w1 at 2", "show w1 To 2", "Next", "nex", "nextt",
            "W2 = 4", "v2 = 4", "2 = 4", "w = 4", "w2 = w0 and w1", "w2 = kept w0", "w2 = Keep w0", "in 1", "const 4",
            "program", "w2 = input w0", "show 1 to 2", "show w1 to w2", "w2 = w1 * 3", "w2 = 3 * 4", "w2 = 3 + w1",
            "w2 = w1 + 3", "w2 = 3 - w1", "w2 = keep 0", "w2 = w", "w2 = ww0 + w1", "w2 = w0 + w1w", "w2 = wA + wA",
            "wK = 4", "w2 = C", "w2 = C * wA", "w2 = input C", "w2 = ()", "w2 = x0 + w1",
        )

    def test_spaces(self):
        for line in ("w2 = input 1", "w2 = 4", "w2 = w0 + w1", "w2 = 3 * w1", "show w1 to 2", "next"):
            self.refuse_line(" " + line, line + " ", "  " + line, line + "\t", "\t" + line)
            for k, sign in enumerate(line):
                if sign == " ":
                    self.refuse_line(line[:k] + line[k + 1:], line[:k] + "  " + line[k + 1:],
                                     line[:k] + "\t" + line[k + 1:], line[:k] + "\u00a0" + line[k + 1:])

    def test_empty_lines(self):
        self.refuse_line("", " ", "   ", "\t")
        self.refuse("\n", 1)
        self.refuse("\nw0 = 1\n", 1)
        self.refuse("w0 = 1\n\n", 2)
        self.refuse("w0 = 1\n\nw1 = 2\n", 2)
        self.refuse("w0 = 1\n\n\n\n", 2)
        self.refuse(" ", 1)

    def test_other_newlines(self):
        for sign in ("\r", "\r\n", "\x0b", "\x0c", "\x1c", "\x85", "\u2028"):
            self.refuse(f"w0 = 1{sign}w1 = 2\n", 1)
            self.refuse(f"w0 = 1\nw1 = 2{sign}", 2)

    def test_zeros_in_front(self):
        self.refuse_line(
            "w2 = 00", "w2 = 01", "w2 = 004", "w2 = input 01", "w2 = input 00", "w2 = w00 + w1", "w2 = w0 + w01",
            "w2 = w01 - w0", "w2 = 03 * w1", "w2 = 3 * w01", "show w01 to 2", "show w1 to 02", "w02 = 4",
            "w2 = keep w00",
        )

    def test_six_digits_and_none(self):
        self.refuse_line(
            "w2 = 100000", "w2 = 123456", "w2 = input 100000", "w2 = w100000 + w0", "w2 = w0 + w100000",
            "w2 = 100000 * w0", "w2 = 3 * w100000", "show w100000 to 2", "show w1 to 100000", "w2 = keep w100000",
            "w2 = ", "w2 = input ", "w2 = w0 + w", "w2 = w + w0", "show w to 2", "show w1 to ", "w2 =  * w0",
            "w2 = " + "1" * 5000,
        )

    def test_other_digits_and_signs_at_numbers(self):
        self.refuse_line(
            "w2 = -1", "w2 = +1", "w2 = 1.0", "w2 = 1e1", "w2 = 1_0", "w2 = 0x1", "w2 = \u0661", "w2 = \u00b2",
            "w2 = \uff11", "w2 = w-1 + w0", "w2 = w\u0661 + w0", "w\u0662 = 4", "w2 = input \u0661", "w2 = input -1",
            "w2 = -3 * w0", "show w-1 to 2", "show w1 to -2", "show w1 to \u0662", "w2 = True", "w2 = None",
        )

    def test_five_digits_are_lines(self):
        for line, reason in (
            ("w2 = 99999", "no number"), ("w2 = 10000", "no number"), ("w2 = input 99999", "no such party"),
            ("w2 = w99999 + w0", "no such wire"), ("w2 = w0 - w99999", "no such wire"),
            ("w2 = 99999 * w0", "no number"),
            ("w2 = w0 * w12345", "no such wire"), ("show w99999 to 2", "no such wire"),
            ("show w1 to 99999", "no such party"), ("w2 = keep w99999", "no such wire"),
            ("w2 = input 0", "no such party"),
        ):
            self.refuse(text_of("w0 = input 1", "w1 = 5", line, "next"), 3, reason)

    def test_the_wire_is_the_number_of_lines_before_it(self):
        self.refuse("w1 = 4", 1)
        self.refuse(text_of("w0 = 4", "w0 = 4"), 2)
        self.refuse(text_of("w0 = 4", "w2 = 4"), 2)
        self.refuse(text_of("w0 = 4", "show w0 to 1", "w1 = 4"), 3)
        self.refuse(text_of("w0 = 4", "next", "w1 = keep w0"), 3)
        for line in ("w3 = input 1", "w1 = w0 + w0", "w0 = w0 - w0", "w20 = w0 * w0", "w = 3 * w0", "w3 = keep w0"):
            self.refuse(text_of("w0 = 4", "w1 = 4", line), 3)

    def test_the_first_wrong_line_counts(self):
        self.refuse(text_of("w0 = 4", "x", "y"), 2)
        self.refuse(text_of("x", "w0 = 4"), 1)
        self.refuse(text_of(*["w0 = 4"] * 3), 2)

    def test_wire_numbers_beyond_60_lines(self):
        lines = [f"w{k} = 1" for k in range(150)]
        self.refuse(text_of(*lines), 0, "too many rows")
        self.refuse(text_of(*lines, "w149 = 1"), 151)
        self.refuse(text_of(*lines, "w150 = 1", "x"), 152)


class RefusedRows(Texts):
    def test_by_their_kind(self):
        for lines, line, reason in (
            (("w0 = input 4",), 1, "no such party"),
            (("w0 = 7",), 1, "no number"),
            (("w0 = 1", "w1 = 7 * w0"), 2, "no number"),
            (("w0 = w0 + w0",), 1, "no such wire"),
            (("w0 = 1", "w1 = w0 - w1"), 2, "no such wire"),
            (("w0 = 1", "w1 = w0 * w2"), 2, "no such wire"),
            (("w0 = 1", "next", "show w0 to 1"), 3, "no such wire"),
            (("w0 = 1", "show w0 to 4"), 2, "no such party"),
            (("w0 = 1", "show w0 to 1", "w2 = w1 + w0"), 3, "no such wire"),
            (("w0 = 1", "w1 = keep w0"), 2, "no such wire"),
            (("w0 = 1", "next", "next", "w3 = keep w0"), 4, "no such wire"),
            (("next",) * 6, 6, "too many epochs"),
            (tuple(f"w{k} = 1" for k in range(61)), 0, "too many rows"),
        ):
            self.refuse(text_of(*lines), line, reason)
            self.refuse("\n".join(lines), line, reason)

    def test_the_empty_text(self):
        self.refuse("", 0, "no rows")

    def test_60_rows_and_6_epochs(self):
        self.assertEqual(len(read_program(SETTING, text_of(*[f"w{k} = 1" for k in range(60)]))[1]), 60)
        self.assertEqual(read_program(SETTING, text_of(*["next"] * 5)), ("program", (NEXT,) * 5))

    def test_a_line_that_is_none_comes_ahead(self):
        self.refuse(text_of("w0 = 7", "w1 = input 9", "x"), 3)
        self.refuse(text_of("w0 = w5 + w6", "w1 = 00"), 2)
        self.refuse(text_of(*["next"] * 8, ""), 9)
        self.refuse(text_of(*[f"w{k} = 1" for k in range(61)], "w61 = "), 62)
        self.refuse(text_of("w0 = input 9", "w1 = 7"), 1, "no such party")

    def test_as_check_program_does(self):
        # A line about another party, number or wire: what check_program says of the rows is what is raised.
        refused = 0
        for seed in range(200):
            program = some_program(seed, ("setting", 11, 5, 2), 4 + seed % 20)
            text = format_program(program)
            try:
                check_program(SETTING, program)
            except BadProgram as bad:
                refused += 1
                self.refuse(text, bad.line, bad.reason)
            else:
                self.assertEqual(read_program(SETTING, text), program)
        self.assertGreater(refused, 50)

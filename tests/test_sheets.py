"""z1, z2, z3, p2 and the interface: untold/sheets.py."""

import random
import re
import unittest

from untold.errors import BadProgram
from untold.plain import values
from untold.programs import check_program, input_rows
from untold.sheets import compile_sheet

SETTING = ("setting", 7, 3, 1)
NEXT = ("next",)
INPUTS = "a = input 1\nb = input 2\n"
REASONS = {
    "unknown sign", "unknown word", "unknown line", "too deep", "bad expression", "unknown name", "number out of range",
    "no such party", "twice", "too many rows", "too many epochs",
}


class Sheets(unittest.TestCase):
    def hold(self, text, rows, names, setting=SETTING):
        answer = compile_sheet(setting, text)
        self.assertEqual(answer, (("program", tuple(rows)), tuple(names)), text)
        self.assertEqual([type(part) for part in (answer, *answer, answer[0][1])], [tuple] * 4)
        self.assertIsNone(check_program(setting, answer[0]))

    def hold_expression(self, text, *rows, wire=None):
        """The rows of an expression behind two inputs a and b, which are the wires 0 and 1; its wire is the last."""
        wire = 1 + len(rows) if wire is None else wire
        head = (("in", 1), ("in", 2))
        self.hold(f"{INPUTS}c = {text}\n", (*head, *rows), (("a", 0), ("b", 1), ("c", wire)))
        self.hold(f"{INPUTS}show {text} to 3", (*head, *rows, ("out", wire, 3)), (("a", 0), ("b", 1)))

    def refuse(self, text, line, reason, setting=SETTING):
        with self.assertRaises(BadProgram, msg=repr(text)) as caught:
            compile_sheet(setting, text)
        self.assertIs(caught.exception.__class__, BadProgram)
        self.assertEqual((caught.exception.line, caught.exception.reason), (line, reason), text)

    def refuse_lines(self, reason, *lines):
        """Each of these, behind two inputs a and b and an empty line, with other wrong lines behind it."""
        for line in lines:
            self.refuse(f"{INPUTS}\n{line}", 4, reason)
            self.refuse(f"{INPUTS}  \n{line}\n?\n00\n", 4, reason)


class Lines(Sheets):
    def test_the_worked_example(self):
        self.hold("a = input 1\nb = a * a + 2\nshow 3 * b to 2\n",
                  [("in", 1), ("product", 0, 0), ("const", 2), ("sum", 1, 2), ("times", 3, 3), ("out", 4, 2)],
                  [("a", 0), ("b", 3)])

    def test_inputs(self):
        self.hold("a = input 1", [("in", 1)], [("a", 0)])
        self.hold("zz=input 3\na =  input  2  \nzz = input 1", [("in", 3), ("in", 2), ("in", 1)], [("a", 1), ("zz", 2)])
        self.hold("abcdefgh = input 9", [("in", 9)], [("abcdefgh", 0)], ("setting", 10007, 9, 4))

    def test_named_expressions(self):
        self.hold("a = 5", [("const", 5)], [("a", 0)])
        self.hold("a = 5\nb = a\nc = b", [("const", 5)], [("a", 0), ("b", 0), ("c", 0)])
        # Behind the line the name is the wire of the expression, in it the wire that it was.
        self.hold("a = 5\na = a + a\na = a * a", [("const", 5), ("sum", 0, 0), ("product", 1, 1)], [("a", 2)])
        self.hold("a = input 1\nb = a\na = input 2\nshow b to 1", [("in", 1), ("in", 2), ("out", 0, 1)],
                  [("a", 1), ("b", 0)])

    def test_shows(self):
        self.hold("show 5 to 3", [("const", 5), ("out", 0, 3)], [])
        self.hold("a = 1\nshow a to 1\nshow a to 2\nshow(a)to 2", [
            ("const", 1), ("out", 0, 1), ("out", 0, 2), ("out", 0, 2)], [("a", 0)])
        self.hold("a = 1\nshow a - 2 to 1", [("const", 1), ("const", 2), ("less", 0, 1), ("out", 2, 1)], [("a", 0)])

    def test_nexts(self):
        self.hold("next", [NEXT], [])
        self.hold("a = 1\nb = 2\nc = 3\nnext c a", [
            ("const", 1), ("const", 2), ("const", 3), NEXT, ("kept", 2), ("kept", 0)], [("a", 5), ("c", 4)])
        self.hold("a = 1\nnext", [("const", 1), NEXT], [])
        self.hold("a = 1\nb = a\nnext b a", [("const", 1), NEXT, ("kept", 0), ("kept", 0)], [("a", 3), ("b", 2)])
        self.hold("a = 1\nnext a\nnext a\nshow a to 1", [
            ("const", 1), NEXT, ("kept", 0), NEXT, ("kept", 2), ("out", 4, 1)], [("a", 4)])
        # A name that was forgotten may be given again.
        self.hold("a = 1\nnext\na = 2", [("const", 1), NEXT, ("const", 2)], [("a", 2)])

    def test_names_like_words(self):
        self.hold("inputs = 1\nshows = 2\ntoo = 3\nnex = 4\nin = 5", [
            ("const", 1), ("const", 2), ("const", 3), ("const", 4), ("const", 5)],
            [("in", 4), ("inputs", 0), ("nex", 3), ("shows", 1), ("too", 2)])
        self.hold("program = 1\nkeep = program", [("const", 1)], [("keep", 0), ("program", 0)])

    def test_the_names_at_the_end_ascend(self):
        self.hold("b = 1\na = 2\nab = 3\nc = 4\naa = 5", [("const", k) for k in range(1, 6)],
                  [("a", 1), ("aa", 4), ("ab", 2), ("b", 0), ("c", 3)])

    def test_lines_that_say_nothing(self):
        self.hold("\n\n  \na = 1\n \n\nshow a to 2\n\n   ", [("const", 1), ("out", 0, 2)], [("a", 0)])

    def test_without_the_last_newline(self):
        self.hold("a = 1\nshow a to 2", [("const", 1), ("out", 0, 2)], [("a", 0)])

    def test_spaces(self):
        rows = [("in", 1), ("const", 2), ("sum", 0, 1), ("times", 6, 2), ("out", 3, 2)]
        self.hold("a=input 1\nshow-(a+2)to 2", rows, [("a", 0)])
        self.hold("   a   =   input   1   \n  show  -  (  a  +  2  )  to  2  ", rows, [("a", 0)])


class Expressions(Sheets):
    def test_single(self):
        self.hold_expression("a", wire=0)
        self.hold_expression("b", wire=1)
        self.hold_expression("0", ("const", 0))
        self.hold_expression("6", ("const", 6))
        self.hold_expression("(a)", wire=0)
        self.hold_expression("(((b)))", wire=1)
        self.hold_expression("(6)", ("const", 6))

    def test_sums_and_differences_from_the_left(self):
        self.hold_expression("a + b", ("sum", 0, 1))
        self.hold_expression("b - a", ("less", 1, 0))
        self.hold_expression("a - b + a - b", ("less", 0, 1), ("sum", 2, 0), ("less", 3, 1))
        self.hold_expression("a - (b + a)", ("sum", 1, 0), ("less", 0, 2))
        self.hold_expression("1 + 2", ("const", 1), ("const", 2), ("sum", 2, 3))
        self.hold_expression("1 - a - 2", ("const", 1), ("less", 2, 0), ("const", 2), ("less", 3, 4))
        self.hold_expression("a + 1", ("const", 1), ("sum", 0, 2))

    def test_products_of_wires(self):
        self.hold_expression("a * b", ("product", 0, 1))
        self.hold_expression("b * a * b", ("product", 1, 0), ("product", 2, 1))
        self.hold_expression("a * (b * a)", ("product", 1, 0), ("product", 0, 2))
        self.hold_expression("a * a", ("product", 0, 0))

    def test_a_number_and_a_wire(self):
        self.hold_expression("3 * a", ("times", 3, 0))
        self.hold_expression("a * 3", ("times", 3, 0))
        self.hold_expression("0 * a", ("times", 0, 0))
        self.hold_expression("2 * a * 3", ("times", 2, 0), ("times", 3, 2))
        self.hold_expression("a * 2 * 3", ("times", 2, 0), ("times", 3, 2))
        self.hold_expression("a * 2 * b", ("times", 2, 0), ("product", 2, 1))
        self.hold_expression("2 * (a + b)", ("sum", 0, 1), ("times", 2, 2))
        self.hold_expression("(a + b) * 2", ("sum", 0, 1), ("times", 2, 2))
        # The rows of what stands in brackets come, and none for the number ahead of them.
        self.hold_expression("2 * (3 + a)", ("const", 3), ("sum", 2, 0), ("times", 2, 3))

    def test_numbers_alone(self):
        self.hold_expression("2 * 3", ("const", 2), ("const", 3), ("product", 2, 3))
        self.hold_expression("2 * 3 * 4", ("const", 2), ("const", 3), ("product", 2, 3), ("times", 4, 4))
        self.hold_expression("2 * 3 * a", ("const", 2), ("const", 3), ("product", 2, 3), ("product", 4, 0))
        self.hold_expression("2 * 2", ("const", 2), ("const", 2), ("product", 2, 3))

    def test_numbers_in_brackets(self):
        self.hold_expression("(2) * a", ("const", 2), ("product", 2, 0))
        self.hold_expression("a * (2)", ("const", 2), ("product", 0, 2))
        self.hold_expression("2 * (3)", ("const", 3), ("times", 2, 2))
        self.hold_expression("(2) * 3", ("const", 2), ("times", 3, 2))
        self.hold_expression("(2) * (3)", ("const", 2), ("const", 3), ("product", 2, 3))
        self.hold_expression("((2)) * a", ("const", 2), ("product", 2, 0))
        self.hold_expression("(2 * 3) * a", ("const", 2), ("const", 3), ("product", 2, 3), ("product", 4, 0))

    def test_a_sign_ahead_of_a_factor(self):
        self.hold_expression("-a", ("times", 6, 0))
        self.hold_expression("--a", ("times", 6, 0), ("times", 6, 2))
        self.hold_expression("-3", ("const", 3), ("times", 6, 2))
        self.hold_expression("-a * b", ("times", 6, 0), ("product", 2, 1))
        self.hold_expression("a * -b", ("times", 6, 1), ("product", 0, 2))
        self.hold_expression("-(a * b)", ("product", 0, 1), ("times", 6, 2))
        self.hold_expression("a - -b", ("times", 6, 1), ("less", 0, 2))
        self.hold_expression("a + -b - -a", ("times", 6, 1), ("sum", 0, 2), ("times", 6, 0), ("less", 3, 4))
        # A number behind a sign is no number by itself.
        self.hold_expression("-2 * a", ("const", 2), ("times", 6, 2), ("product", 3, 0))
        self.hold_expression("a * -2", ("const", 2), ("times", 6, 2), ("product", 0, 3))
        self.hold_expression("2 * -3", ("const", 3), ("times", 6, 2), ("times", 2, 3))
        self.hold_expression("-2 * 3", ("const", 2), ("times", 6, 2), ("times", 3, 3))
        self.hold_expression("-a * 2 + 1", ("times", 6, 0), ("times", 2, 2), ("const", 1), ("sum", 3, 4))

    def test_products_bind_closer_than_sums(self):
        self.hold_expression("a + b * a", ("product", 1, 0), ("sum", 0, 2))
        self.hold_expression("a * b + a", ("product", 0, 1), ("sum", 2, 0))
        self.hold_expression("a - 2 * b - 3", ("times", 2, 1), ("less", 0, 2), ("const", 3), ("less", 3, 4))
        self.hold_expression("(a + b) * (a - b)", ("sum", 0, 1), ("less", 0, 1), ("product", 2, 3))

    def test_the_left_part_comes_ahead(self):
        self.hold_expression("1 + 2 * 3", ("const", 1), ("const", 2), ("const", 3), ("product", 3, 4), ("sum", 2, 5))
        self.hold_expression("(1 + a) * (2 + b)", ("const", 1), ("sum", 2, 0), ("const", 2), ("sum", 4, 1),
                             ("product", 3, 5))
        self.hold_expression("1 - (2 - 3)", ("const", 1), ("const", 2), ("const", 3), ("less", 3, 4), ("less", 2, 5))

    def test_the_number_ahead_of_a_factor_hangs_on_p(self):
        self.hold("a = -1", [("const", 1), ("times", 1, 0)], [("a", 1)], ("setting", 2, 1, 0))
        self.hold("a = -10006", [("const", 10006), ("times", 10006, 0)], [("a", 1)], ("setting", 10007, 9, 4))


def some_tree(pick, names, p, deep):
    """An expression as a tree."""
    kind = pick.choice(("name", "name", "number", "sum", "less", "product", "product", "minus", "brackets"))
    if deep == 0 or kind in ("name", "number"):
        if kind == "number" or not names:
            return ("number", pick.randrange(p))
        return ("name", pick.choice(names))
    if kind in ("minus", "brackets"):
        return (kind, some_tree(pick, names, p, deep - 1))
    return (kind, some_tree(pick, names, p, deep - 1), some_tree(pick, names, p, deep - 1))


def plain_of(tree):
    """A tree in which what has to stand in brackets does."""
    kind, *parts = tree
    if kind in ("name", "number"):
        return tree
    parts = [plain_of(part) for part in parts]
    loose = {"sum": [(), ("sum", "less")], "less": [(), ("sum", "less")], "minus": [("sum", "less", "product")],
             "product": [("sum", "less"), ("sum", "less", "product")], "brackets": [()]}[kind]
    return (kind, *[("brackets", part) if part[0] in some else part for part, some in zip(parts, loose)])


def text_of(tree):
    """The text of a tree."""
    kind, *parts = tree
    if kind in ("name", "number"):
        return str(parts[0])
    texts = [text_of(part) for part in parts]
    if kind == "brackets":
        return f"({texts[0]})"
    if kind == "minus":
        return f"-{texts[0]}"
    return f" {dict(sum='+', less='-', product='*')[kind]} ".join(texts)


def put_rows(tree, names, rows, p):
    """Puts the rows of a tree behind those that are there, by the words of z2; its wire."""
    kind, *parts = tree
    if kind == "name":
        return names[parts[0]]
    if kind == "number":
        row = ("const", parts[0])
    elif kind == "brackets":
        return put_rows(parts[0], names, rows, p)
    elif kind == "minus":
        row = ("times", p - 1, put_rows(parts[0], names, rows, p))
    elif kind == "product" and [part[0] for part in parts].count("number") == 1:
        number, other = sorted(parts, key=lambda part: part[0] != "number")
        row = ("times", number[1], put_rows(other, names, rows, p))
    else:
        a = put_rows(parts[0], names, rows, p)
        row = (kind, a, put_rows(parts[1], names, rows, p))
    rows.append(row)
    return len(rows) - 1


def some_sheet(seed, setting):
    """A sheet that hangs on the seed alone, with its rows and names by the words of z1 and z2; none if too great."""
    pick = random.Random(seed)
    _, p, n, _ = setting
    lines, rows, names = [], [], {}
    for _ in range(pick.randint(1, 9)):
        kind = pick.choice(("input", "named", "named", "show", "next", "empty"))
        name = pick.choice(("a", "b", "c", "abcdefgh", "tot"))
        if kind == "input":
            rows.append(("in", pick.randint(1, n)))
            names[name] = len(rows) - 1
            lines.append(f"{name} = input {rows[-1][1]}")
        elif kind == "next":
            kept = pick.sample(sorted(names), pick.randint(0, len(names)))
            rows.append(NEXT)
            old, names = names, {}
            for word in kept:
                rows.append(("kept", old[word]))
                names[word] = len(rows) - 1
            lines.append(" ".join(["next", *kept]))
        elif kind == "empty":
            lines.append(" " * pick.randint(0, 2))
        else:
            tree = plain_of(some_tree(pick, sorted(names), p, pick.randint(0, 3)))
            wire = put_rows(tree, names, rows, p)
            if kind == "named":
                names[name] = wire
                lines.append(f"{name} = {text_of(tree)}")
            else:
                rows.append(("out", wire, pick.randint(1, n)))
                lines.append(f"show {text_of(tree)} to {rows[-1][2]}")
    return lines, rows, tuple(sorted(names.items()))


class SomeSheets(Sheets):
    def right(self, setting, many):
        found = [some_sheet(seed, setting) for seed in range(many)]
        found = [(lines, rows, names) for lines, rows, names in found if 0 < len(rows) <= 60 and rows.count(NEXT) < 6]
        self.assertGreater(len(found), many // 2)
        return found

    def test_right_ones(self):
        for setting in (("setting", 2, 1, 0), SETTING, ("setting", 10007, 9, 4)):
            for lines, rows, names in self.right(setting, 300):
                text = "\n".join(lines)
                self.hold(text, rows, names, setting)
                self.hold(text.replace(" ", "   ") + "\n", rows, names, setting)
                self.hold(re.sub(r" ?([-=+*()]) ?", r"\1", text), rows, names, setting)

    def test_the_values(self):
        # Python reckons the same expressions.
        for lines, _, _ in self.right(SETTING, 300):
            program, names = compile_sheet(SETTING, "\n".join(lines))
            inputs = tuple((3 * k * k + 1) % 7 for k in range(len(input_rows(program))))
            found, given, known, shown = values(SETTING, program, inputs), list(inputs), {}, []
            for line in lines:
                words = line.split()
                if "input" in words:
                    known[words[0]] = given.pop(0)
                elif words[:1] == ["next"]:
                    known = {word: known[word] for word in words[1:]}
                elif words[:1] == ["show"]:
                    shown.append(eval(" ".join(words[1:-2]), {}, known) % 7)
                elif words:
                    known[words[0]] = eval(" ".join(words[2:]), {}, known) % 7
            self.assertEqual({name: found[wire] for name, wire in names}, known)
            self.assertEqual([found[row[1]] for row in program[1] if row[0] == "out"], shown)

    def test_the_first_wrong_line(self):
        # Of a sheet with a change the lines ahead of the wrong one are right, and those behind it do not matter.
        pick = random.Random(5)
        refused, reasons = 0, set()
        for lines, _, _ in self.right(SETTING, 600):
            text = "\n".join(lines)
            at = pick.randrange(len(text) + 1)
            change = pick.choice(("", "(", ")", "-", "*", "=", "9", "a", "d", " ", "?", "A", "to", "next", "\n", " 0 "))
            text = text[:at] + change + text[at + pick.randint(0, 1):]
            try:
                program, _ = compile_sheet(SETTING, text)
            except BadProgram as bad:
                refused += 1
                reasons.add(bad.reason)
                if bad.reason == "no rows":
                    self.assertEqual(text.strip(" \n"), "")
                    continue
                self.assertIn(bad.reason, REASONS)
                self.refuse("\n".join(text.split("\n")[:bad.line]), bad.line, bad.reason)
                self.refuse(text + "\n?", bad.line, bad.reason)
                ahead = "\n".join(text.split("\n")[:bad.line - 1])
                if ahead.strip(" \n"):
                    compile_sheet(SETTING, ahead)
            else:
                check_program(SETTING, program)
        self.assertGreater(refused, 200)
        self.assertGreater(len(reasons), 6)


class WrongLines(Sheets):
    def test_signs_and_words(self):
        self.refuse_lines("unknown sign", "c = a / b", "A = 1", "a_b = 1", "c = 1.5", "\t", "c = a\t", "show a to 1;",
                          "c = a # b", "next, a", "c = [a]", "\r", "c = 1\r", "\u00e4 = 1", "c = \u0661")
        self.refuse_lines("unknown word", "c = 00", "c = 01", "c = 123456", "abcdefghi = 1", "c = a1", "c = 2a",
                          "show a to 01", "c = input1", "input1", "next a1", "c = a + abcdefghi", "to2", "show a to2")

    def test_signs_ahead_of_words_ahead_of_all_else(self):
        self.refuse_lines("unknown sign", "01 !", "c = zz + 01 + 9 ?", "next zz !", "c = input 9 !", "= !",
            "show zz to 9 !")
        self.refuse_lines("unknown word", "c = zz + 9 + 01", "= 01", "a 01", "show zz to 01", "next zz 00",
            "c = input 00",
                          "c = " + "(" * 41 + "01", "show a b c 01")

    def test_lines_that_begin_otherwise(self):
        self.refuse_lines(
            "unknown line", "a", "a b", "a + 1", "= 1", "1 = a", "1", "input", "input 1", "input = 1", "to", "to = 1",
            "to a", "( a ) = 1", "(a = 1)", "- a", "-a = 1", "a (= 1)", "a a = 1", "+", "*", ")", "5 = 5", "0",
            "c to 1", "c input 1", "c next", "c show a to 1",
        )

    def test_inputs(self):
        self.refuse_lines(
            "unknown line", "c = input", "c = input a", "c = input 1 2", "c = input 1 +", "c = input 1 + a",
            "c = input input", "c = input = 1", "c = input (1)", "c = input -1", "c = input to 1", "c = input 1 a",
            "c = input 9 9", "c = input 0 0", "c = input zz",
        )
        self.refuse_lines("no such party", "c = input 0", "c = input 4", "c = input 7", "c = input 99999",
            "a = input 4")
        self.refuse_lines("bad expression", "c = (input 1)", "c = a + input 1", "c = -input 1", "show input 1 to 2",
                          "c = 3 * input 1")

    def test_no_factor_where_one_is_due(self):
        self.refuse_lines(
            "bad expression", "c =", "c = +", "c = -", "c = *", "c = )", "c = (", "c = ()", "c = =", "c = = 1",
            "c == 1",
            "c = a +", "c = a -", "c = a *", "c = a + * b", "c = a * * b", "c = a + + b", "c = (a +) b", "c = a * )",
            "c = to", "c = show a to 1", "c = next", "c = a + to", "c = a * next", "c = (to)", "c = a + =", "c = (*a)",
            "show to 1", "show", "show + to 1", "show a + to 1", "show = to 1", "show () to 1", "show next to 1",
            "show -",
            "show show", "c = a - - * b", "c = - - -", "c = (a) * ()",
        )

    def test_brackets_that_are_not_closed(self):
        self.refuse_lines(
            "bad expression", "c = (a", "c = (a + b", "c = ((a)", "c = (a b)", "c = (a 1)", "c = (a (b))",
            "c = (a = b)",
            "c = (a to 1)", "c = a * (b", "show (a to 1", "show (a + b to 1", "show (a", "show (a b) to 1",
            "c = (a next)", "c = -(a",
        )

    def test_more_behind_an_expression(self):
        self.refuse_lines(
            "bad expression", "c = a b", "c = a 1", "c = 1 a", "c = a )", "c = a)", "c = (a))", "c = a (b)",
            "c = a = b",
            "c = a to 1", "c = a input 1", "c = a next", "c = 1 2", "c = a + b show", "c = a zz", "c = a 9",
        )
        self.refuse_lines(
            "unknown line", "show a", "show a to", "show a 1", "show a b to 1", "show a to b", "show a to 1 2",
            "show a to 1 to 2", "show a to to 1", "show a ) to 1", "show a) to 1", "show (a)) to 1", "show a (b) to 1",
            "show a = 1", "show a to 1 )", "show a to (1)", "show a to -1", "show a to 1 + 1", "show a next 1",
            "show a input 1", "show a to next", "show a zz", "show a to zz", "show a to 9 9", "show a 9 to 9",
        )

    def test_unknown_names(self):
        self.refuse_lines("unknown name", "c = zz", "c = c", "c = a + c", "show c to 1", "c = (c)", "c = -c",
            "c = 3 * c",
                          "c = c + 1", "next c", "next a c", "next c a", "next inputs")
        self.refuse("a = b\nb = 1", 1, "unknown name")
        self.refuse("a = 1\nnext\nb = a", 3, "unknown name")
        self.refuse("a = 1\nb = 2\nnext a\nshow a to 1\nshow b to 1", 5, "unknown name")
        self.refuse("a = 1\nb = 2\nnext a\nnext a b", 4, "unknown name")

    def test_numbers_out_of_range(self):
        self.refuse_lines("number out of range", "c = 7", "c = a + 7", "c = 7 * a", "c = a * 7", "c = (7)", "c = -7",
                          "c = 99999", "show 7 to 1", "show a * 10 to 2", "c = 3 * 7", "c = 7 * 3")
        self.refuse("a = 2", 1, "number out of range", ("setting", 2, 1, 0))
        self.refuse("a = 10007", 1, "number out of range", ("setting", 10007, 9, 4))

    def test_parties_of_shows(self):
        self.refuse_lines("no such party", "show a to 0", "show a to 4", "show a + b to 99999", "show 3 to 7")
        self.refuse("a = 1\nshow a to 2", 2, "no such party", ("setting", 2, 1, 0))

    def test_nexts(self):
        self.refuse_lines("unknown line", "next 1", "next a 1", "next (a)", "next a + b", "next =", "next = 1",
            "next to",
                          "next next", "next a next", "next input", "next show", "next a * b", "next 9")
        self.refuse_lines("twice", "next a a", "next a b a", "next b b", "next a b b a")


class WhichOfTwo(Sheets):
    def test_from_the_left(self):
        for reason, line in (
            ("unknown name", "c = zz + 9"), ("number out of range", "c = 9 + zz"), ("unknown name", "c = zz +"),
            ("number out of range", "c = 9 )"), ("bad expression", "c = + zz"), ("bad expression", "c = () + 9"),
            ("bad expression", "c = (a b + zz)"), ("unknown name", "c = (zz b"), ("unknown name", "c = zz zz ("),
            ("bad expression", "c = a zz"), ("number out of range", "show 9 to 9"), ("unknown name", "show zz to 9"),
            ("unknown name", "show zz"), ("unknown line", "show a zz to 9"), ("unknown line", "show a to 9 9"),
            ("unknown name", "c = a * zz * 9"), ("number out of range", "c = a * 9 * zz"),
            ("bad expression", "c = a * * zz"),
            ("unknown name", "c = -zz + " + "(" * 41), ("too deep", "c = " + "(" * 41 + "zz"),
            ("too deep", "c = " + "-" * 41), ("bad expression", "c = " + "(" * 40),
            ("bad expression", "c = )" + "(" * 41),
            ("number out of range", "c = " + "(" * 40 + "9 " + "(" * 41), ("too deep", "c = a + " + "-" * 41 + "zz to"),
            ("unknown line", "next 1 zz"), ("unknown name", "next zz 1"), ("twice", "next a a 1"),
            ("twice", "next a a zz"),
            ("unknown line", "next a 1 a"), ("unknown name", "next a zz a"), ("unknown line", "next to to"),
            ("bad expression", "c = a to 9"), ("unknown line", "zz"), ("unknown line", "9 = zz"),
            ("unknown name", "c = 3 * zz * 3 )"), ("number out of range", "show (9 to 9"),
        ):
            self.refuse_lines(reason, line)

    def test_the_first_line_counts(self):
        self.refuse("a = 1\nb = zz\n?", 2, "unknown name")
        self.refuse("\n\na = 00\n?", 3, "unknown word")
        self.refuse("?\n?", 1, "unknown sign")


class Depths(Sheets):
    def test_40_and_41(self):
        for text, rows in (
            ("(" * 40 + "a" + ")" * 40, 0), ("-" * 40 + "a", 40), ("(-" * 20 + "a" + ")" * 20, 20),
            ("-(" * 20 + "a" + ")" * 20, 20), ("-" * 20 + "(" * 20 + "a" + ")" * 20, 20),
        ):
            for right in (text, f"b + {text}", f"{text} - {text}" if rows < 20 else text, f"b * {text}"):
                program, _ = compile_sheet(SETTING, f"{INPUTS}c = {right}")
                self.assertGreaterEqual(len(program[1]), 2 + rows)
            for wrong in (f"({text})", f"-{text}", f"b + ({text})", f"b * -{text}", f"({text}", f"-{text} zz"):
                self.refuse_lines("too deep", f"c = {wrong}", f"show {wrong} to 1")

    def test_side_by_side_is_not_within(self):
        self.hold_expression(" + ".join(["(a)"] * 50), ("sum", 0, 0), *[("sum", k, 0) for k in range(2, 50)])
        self.hold_expression("-a - -a * -a * -(-a)", ("times", 6, 0), ("times", 6, 0), ("times", 6, 0),
                             ("product", 3, 4), ("times", 6, 0), ("times", 6, 6), ("product", 5, 7), ("less", 2, 8))
        line = "(" * 40 + "a" + ")" * 40
        self.hold_expression(f"{line} * {line} + {line}", ("product", 0, 0), ("sum", 2, 0))

    def test_signs_between_terms_do_not_count(self):
        self.hold_expression("a" + " - a" * 50, ("less", 0, 0), *[("less", k, 0) for k in range(2, 51)])

    def test_far_too_deep(self):
        for line in ("(" * 5000, "-" * 5000, "(-" * 3000, "(" * 5000 + "a" + ")" * 5000):
            self.refuse_lines("too deep", f"c = {line}", f"show {line} to 1")


class Sizes(Sheets):
    def test_60_and_61_rows(self):
        lines = [f"a = input {1 + k % 3}" for k in range(60)]
        self.hold("\n".join(lines), [("in", 1 + k % 3) for k in range(60)], [("a", 59)])
        self.refuse("\n".join([*lines, "a = 1"]), 61, "too many rows")
        self.refuse("\n".join([*lines, "", "a = 1", "?"]), 62, "too many rows")
        self.refuse("\n".join([*lines, "a = a", "a = 1", "?"]), 62, "too many rows")
        self.refuse("\n".join([*lines, "next"]), 61, "too many rows")
        self.refuse("\n".join([*lines, "show a to 1"]), 61, "too many rows")

    def test_at_the_end_of_a_line(self):
        line = "a = " + " + ".join(["1"] * 30)
        self.assertEqual(len(compile_sheet(SETTING, line)[0][1]), 59)
        self.refuse(line + " + 1", 1, "too many rows")
        # All other reasons of the line come ahead.
        self.refuse(line + " + 1" * 100 + " + zz", 1, "unknown name")
        self.refuse(line + " + 1" * 100 + " 1", 1, "bad expression")
        self.refuse(line + " + 1" * 100 + "\n?", 1, "too many rows")
        self.refuse(f"{line}\nshow a * a to 9", 2, "no such party")
        self.refuse(f"{line}\nshow a * a to 1", 2, "too many rows")
        self.refuse(f"{line}\nnext a b", 2, "unknown name")
        self.refuse(f"{line}\nnext a", 2, "too many rows")

    def test_6_and_7_epochs(self):
        self.hold("next\n" * 5, [NEXT] * 5, [])
        self.refuse("next\n" * 6, 6, "too many epochs")
        self.refuse("next\n" * 7 + "?", 6, "too many epochs")
        self.refuse("a = 1\n\n" + "next a\n" * 6, 8, "too many epochs")
        self.refuse("next\n" * 5 + "next zz", 6, "unknown name")
        self.refuse("next\n" * 5 + "a = 1\nnext a a", 7, "twice")

    def test_too_many_rows_comes_ahead_of_too_many_epochs(self):
        lines = ["next"] * 5 + ["a = 1"] * 55
        self.refuse("\n".join([*lines, "next"]), 61, "too many rows")
        self.refuse("\n".join([*lines[:-1], "next"]), 60, "too many epochs")
        self.refuse("\n".join([*lines[:-1], "next a"]), 60, "too many rows")

    def test_no_rows(self):
        for text in ("", "\n", "   ", " \n  \n\n   \n"):
            self.refuse(text, 0, "no rows")

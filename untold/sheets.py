"""Sheets: texts of named numbers and expressions that are made into programs."""

from untold.errors import BadProgram
from untold.programs import MOST_EPOCHS, MOST_ROWS
from untold.words import is_name, is_numeral, words_of

MOST_DEEP = 40


class Maker:
    """The program that is made of a sheet, as far as its lines are read; at is the next word of the line."""

    def __init__(self, setting):
        self.setting = setting
        self.rows = []
        self.epochs = 1
        self.names = {}
        self.line = 0
        self.words = ()
        self.at = 0

    def next_word(self):
        """The next word of the line, empty at its end."""
        return self.words[self.at] if self.at < len(self.words) else ""

    def put(self, *row):
        """Puts a row behind those that are there; its index."""
        self.rows.append(row)
        return len(self.rows) - 1

    def check_party(self, word):
        """Raises BadProgram if there is no party with this number."""
        if not 1 <= int(word) <= self.setting[2]:
            raise BadProgram(self.line, "no such party")

    def wire_of(self, part):
        """The wire of a part, which for a number by itself needs a row of its own."""
        kind, x = part
        return self.put("const", x) if kind == "number" else x

    def read_single(self):
        """Reads a name or a number: ("wire", its wire) or ("number", it)."""
        word = self.next_word()
        if not is_name(word) and not is_numeral(word):
            raise BadProgram(self.line, "bad expression")
        if is_name(word) and word not in self.names:
            raise BadProgram(self.line, "unknown name")
        if is_numeral(word) and int(word) >= self.setting[1]:
            raise BadProgram(self.line, "number out of range")
        self.at += 1
        return ("wire", self.names[word]) if is_name(word) else ("number", int(word))

    def read_factor(self, deep):
        """Reads a FACTOR that stands within so many brackets and signs; ("wire", its wire) or ("number", it)."""
        word = self.next_word()
        if word not in ("(", "-"):
            return self.read_single()
        if deep == MOST_DEEP:
            raise BadProgram(self.line, "too deep")
        self.at += 1
        if word == "-":
            return ("wire", self.put("times", self.setting[1] - 1, self.wire_of(self.read_factor(deep + 1))))
        wire = self.read_expression(deep + 1)
        if self.next_word() != ")":
            raise BadProgram(self.line, "bad expression")
        self.at += 1
        return ("wire", wire)

    def multiply(self, left, right):
        """The product of two parts; just one number by itself needs no row."""
        if left[0] == "number" and right[0] == "wire":
            return ("wire", self.put("times", left[1], right[1]))
        if left[0] == "wire" and right[0] == "number":
            return ("wire", self.put("times", right[1], left[1]))
        a = self.wire_of(left)
        return ("wire", self.put("product", a, self.wire_of(right)))

    def read_term(self, deep):
        """Reads a TERM; its wire."""
        part = self.read_factor(deep)
        while self.next_word() == "*":
            self.at += 1
            part = self.multiply(part, self.read_factor(deep))
        return self.wire_of(part)

    def read_expression(self, deep):
        """Reads an EXPRESSION; its wire."""
        wire = self.read_term(deep)
        while self.next_word() in ("+", "-"):
            word = "sum" if self.next_word() == "+" else "less"
            self.at += 1
            wire = self.put(word, wire, self.read_term(deep))
        return wire

    def read_input(self):
        """Reads what stands behind `input`; the wire of the row in."""
        rest = self.words[self.at:]
        if len(rest) != 1 or not is_numeral(rest[0]):
            raise BadProgram(self.line, "unknown line")
        self.check_party(rest[0])
        return self.put("in", int(rest[0]))

    def read_named(self):
        """Reads a line that gives a wire a name."""
        self.at = 2
        if self.next_word() == "input":
            self.at += 1
            wire = self.read_input()
        else:
            wire = self.read_expression(0)
            if self.next_word():
                raise BadProgram(self.line, "bad expression")
        self.names[self.words[0]] = wire

    def read_show(self):
        """Reads a line that shows a wire to a party."""
        self.at = 1
        wire = self.read_expression(0)
        rest = self.words[self.at:]
        if len(rest) != 2 or rest[0] != "to" or not is_numeral(rest[1]):
            raise BadProgram(self.line, "unknown line")
        self.check_party(rest[1])
        self.put("out", wire, int(rest[1]))

    def read_next(self):
        """Reads a line that begins the next epoch, with the names that are kept."""
        rest = self.words[1:]
        for at, word in enumerate(rest):
            if not is_name(word):
                raise BadProgram(self.line, "unknown line")
            if word not in self.names:
                raise BadProgram(self.line, "unknown name")
            if word in rest[:at]:
                raise BadProgram(self.line, "twice")
        self.put("next")
        self.epochs += 1
        kept = {}
        for word in rest:
            kept[word] = self.put("kept", self.names[word])
        self.names = kept

    def check_size(self):
        """Raises BadProgram if the line made the program too great."""
        if len(self.rows) > MOST_ROWS:
            raise BadProgram(self.line, "too many rows")
        if self.epochs > MOST_EPOCHS:
            raise BadProgram(self.line, "too many epochs")

    def read_line(self, line, words):
        """Reads a line that says something, with this number and these words."""
        self.line = line
        self.words = words
        if words[0] == "show":
            self.read_show()
        elif words[0] == "next":
            self.read_next()
        elif is_name(words[0]) and words[1:2] == ("=",):
            self.read_named()
        else:
            raise BadProgram(line, "unknown line")
        self.check_size()


def compile_sheet(setting, text):
    """The program that a sheet is made into, and the pairs (name, wire) at its end; raises BadProgram."""
    maker = Maker(setting)
    for number, line in enumerate(text.split("\n"), start=1):
        words = words_of(line, number)
        if words:
            maker.read_line(number, words)
    if not maker.rows:
        raise BadProgram(0, "no rows")
    return ("program", tuple(maker.rows)), tuple(sorted(maker.names.items()))

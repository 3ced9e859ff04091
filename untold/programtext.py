"""Programs as texts, a line for each row."""

from untold.errors import BadProgram
from untold.programs import check_program
from untold.words import is_numeral

# For the word of each row its line: wK is its own wire; wA and C stand for its items in their order, wires as wA.
FORMS = {
    "in": "wK = input C",
    "const": "wK = C",
    "sum": "wK = wA + wA",
    "less": "wK = wA - wA",
    "product": "wK = wA * wA",
    "times": "wK = C * wA",
    "kept": "wK = keep wA",
    "out": "show wA to C",
    "next": "next",
}


def format_row(k, row):
    """The line of row k, without a newline."""
    words = []
    used = 1
    for form in FORMS[row[0]].split(" "):
        if form == "wK":
            words.append(f"w{k}")
        elif form in ("wA", "C"):
            lead = form[:-1]
            words.append(f"{lead}{row[used]}")
            used += 1
        else:
            words.append(form)
    return " ".join(words)


def format_program(program):
    """The text of a program."""
    return "".join([f"{format_row(k, row)}\n" for k, row in enumerate(program[1])])


def lines_of(text):
    """The lines of a text; what stands behind the last newline is none if it is empty."""
    lines = text.split("\n")
    return lines if lines[-1] else lines[:-1]


def row_in(k, name, words):
    """The row with this name that the words of line k say, or None."""
    forms = FORMS[name].split(" ")
    if len(forms) != len(words):
        return None
    items = []
    for form, word in zip(forms, words):
        if form in ("wA", "C"):
            lead = form[:-1]
            if not word.startswith(lead) or not is_numeral(word[len(lead):]):
                return None
            items.append(int(word[len(lead):]))
        elif word != (f"w{k}" if form == "wK" else form):
            return None
    return (name, *items)


def read_row(k, line):
    """The row that line k says; raises BadProgram if it says none."""
    words = line.split(" ")
    for name in FORMS:
        row = row_in(k, name, words)
        if row is not None:
            return row
    raise BadProgram(k + 1, "unknown row")


def read_program(setting, text):
    """The program that a text says; raises BadProgram with the first wrong line and the reason."""
    rows = [read_row(k, line) for k, line in enumerate(lines_of(text))]
    program = ("program", tuple(rows))
    check_program(setting, program)
    return program

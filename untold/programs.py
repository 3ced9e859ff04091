"""Programs: rows of sums and products, of what is shown, and of epochs."""

from untold.errors import BadProgram
from untold.kinds import is_whole

MOST_ROWS = 60
MOST_EPOCHS = 6

# For the word of each row, what its items are; "old" is a wire of the epoch just ahead.
SHAPES = {
    "in": ("party",),
    "const": ("number",),
    "sum": ("wire", "wire"),
    "less": ("wire", "wire"),
    "product": ("wire", "wire"),
    "times": ("number", "wire"),
    "out": ("wire", "party"),
    "next": (),
    "kept": ("old",),
}


def gives_wire(row):
    """Whether a row of a program gives a wire."""
    return row[0] not in ("out", "next")


def check_whole(program):
    """Raises BadProgram for the shape of the whole and the number of rows."""
    if not isinstance(program, tuple) or len(program) != 2 or program[0] != "program":
        raise BadProgram(0, "not a program")
    if not isinstance(program[1], tuple):
        raise BadProgram(0, "not a program")
    if not program[1]:
        raise BadProgram(0, "no rows")
    if len(program[1]) > MOST_ROWS:
        raise BadProgram(0, "too many rows")


def is_row(row):
    """Whether a thing is a row by its first word, its length and the kind of its items."""
    # Lists cannot be looked up in a dict, so the word has to be seen as a string first.
    if not isinstance(row, tuple) or not row or not isinstance(row[0], str) or row[0] not in SHAPES:
        return False
    return len(row) == 1 + len(SHAPES[row[0]]) and all([is_whole(x) for x in row[1:]])


def items_of(row, role):
    """The items of a row that stand for a party, a number, a wire or an old wire."""
    return [x for x, own in zip(row[1:], SHAPES[row[0]]) if own == role]


def named(row):
    """The wires that a row names."""
    return items_of(row, "wire") + items_of(row, "old")


def is_wire(wires, a, epoch):
    """Whether a is a wire of an epoch; wires has for each row ahead the epoch of its wire, or None."""
    return 0 <= a < len(wires) and wires[a] == epoch


def fault_of(setting, row, wires, epoch):
    """Why a row of an epoch is refused behind the rows ahead of it, or None."""
    if not is_row(row):
        return "unknown row"
    _, p, n, _ = setting
    if not all([1 <= party <= n for party in items_of(row, "party")]):
        return "no such party"
    if not all([0 <= c < p for c in items_of(row, "number")]):
        return "no number"
    if not all([is_wire(wires, a, epoch) for a in items_of(row, "wire")]):
        return "no such wire"
    if not all([is_wire(wires, a, epoch - 1) for a in items_of(row, "old")]):
        return "no such wire"
    if row[0] == "next" and epoch + 1 == MOST_EPOCHS:
        return "too many epochs"
    return None


def check_program(setting, program):
    """None, or raises BadProgram with the first wrong line and the reason."""
    check_whole(program)
    wires = []
    epoch = 0
    for k, row in enumerate(program[1]):
        reason = fault_of(setting, row, wires, epoch)
        if reason is not None:
            raise BadProgram(k + 1, reason)
        wires.append(epoch if gives_wire(row) else None)
        if row[0] == "next":
            epoch += 1


def rows_of(program, word):
    """The indices of the rows with this word, ascending."""
    return tuple([k for k, row in enumerate(program[1]) if row[0] == word])


def epochs(program):
    """How many epochs a program has."""
    return 1 + len(rows_of(program, "next"))


def epoch_of(program, k):
    """The epoch of row k; a row next is of the epoch that it begins."""
    return len([at for at in rows_of(program, "next") if at <= k])


def row_epochs(program):
    """A tuple with the epoch of each row, as epoch_of gives it."""
    found = []
    epoch = 0
    for row in program[1]:
        if row[0] == "next":
            epoch += 1
        found.append(epoch)
    return tuple(found)


def input_rows(program):
    """The indices of the rows in, ascending."""
    return rows_of(program, "in")


def output_rows(program):
    """The indices of the rows out, ascending."""
    return rows_of(program, "out")

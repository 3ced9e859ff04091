"""Plain values: what a program reckons, without any sharing."""

from untold.programs import output_rows


def value_of(p, row, before):
    """The value of a row that is no input, behind the values of the rows ahead of it; None without a wire."""
    word = row[0]
    if word == "const":
        return row[1]
    if word == "times":
        return row[1] * before[row[2]] % p
    if word == "kept":
        return before[row[1]]
    if word == "sum":
        return (before[row[1]] + before[row[2]]) % p
    if word == "less":
        return (before[row[1]] - before[row[2]]) % p
    if word == "product":
        return before[row[1]] * before[row[2]] % p
    return None


def values(setting, program, inputs):
    """A tuple with the value for each row, None where it gives no wire."""
    found = []
    used = 0
    for row in program[1]:
        if row[0] == "in":
            found.append(inputs[used])
            used += 1
        else:
            found.append(value_of(setting[1], row, found))
    return tuple(found)


def shown(setting, program, inputs):
    """A tuple of triples (index, party, value) for the rows out, in their order."""
    found = values(setting, program, inputs)
    rows = program[1]
    return tuple([(k, rows[k][2], found[rows[k][1]]) for k in output_rows(program)])

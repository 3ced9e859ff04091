"""Outputs: what is read where some parties send other numbers than their shares."""

from untold.reading import read
from untold.runs import sent


def number_heard(setting, row):
    """The number that a party reads from what all parties have for it, None where nothing can be."""
    return read(setting, tuple(row))


def read_out(setting, program, inputs, coins, lies):
    """Triples (index, party, number) for the rows out: what is read behind the lies, None where nothing can be."""
    lied = {(k, party): number for k, party, number in lies}
    found = []
    for k, reader, row in sent(setting, program, inputs, coins):
        heard = [lied.get((k, party), share) for party, share in enumerate(row, start=1)]
        found.append((k, reader, number_heard(setting, heard)))
    return tuple(found)

"""Reading a row of shares of which some may be wrong."""

from itertools import combinations

from untold.polys import through, value_at, veil


def wrong(setting, row, poly):
    """The parties whose share in the row is not the value of the polynomial, ascending."""
    p = setting[1]
    return tuple([party for party, share in enumerate(row, start=1) if value_at(p, poly, party) != share])


def candidates(setting, row, many):
    """The polynomials through each choice of so many shares of the row."""
    p = setting[1]
    found = []
    for some in combinations(range(len(row)), many):
        points = tuple([k + 1 for k in some])
        found.append(through(p, points, tuple([row[k] for k in some])))
    return found


def readings(setting, row, e):
    """All polynomials as which the row is read with at most e wrong shares, ascending."""
    # With e at most n - t - 1 at least t + 1 shares are right, and they alone tell the polynomial.
    polys = candidates(setting, row, setting[3] + 1)
    return tuple(sorted({poly for poly in polys if len(wrong(setting, row, poly)) <= e}))


def read(setting, row):
    """The number that the row is read as with (n - t - 1) // 2 wrong shares, or None."""
    _, _, n, t = setting
    polys = readings(setting, row, (n - t - 1) // 2)
    return polys[0][0] if polys else None


def twins(setting, e):
    """A row read with at most e wrong shares as two polynomials of unlike numbers at 0, or None."""
    _, p, n, t = setting
    if n >= t + 1 + 2 * e:
        return None
    # Both polynomials are 0 at the parties 1 to t; of the other shares, at most 2 e, each gets at most e.
    first = (0,) * (t + 1)
    second = veil(p, tuple(range(1, t + 1)))
    row = [0 if party <= t + e else value_at(p, second, party) for party in range(1, n + 1)]
    return tuple(row), first, second

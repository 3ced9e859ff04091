"""Reading a row of shares of which some may be wrong."""

from itertools import combinations

from untold.polys import through, value_at, veil


def wrong(setting, row, poly):
    """The parties whose share in the row is not the value of the polynomial, ascending."""
    p = setting[1]
    return tuple([party for party, share in enumerate(row, start=1) if value_at(p, poly, party) != share])


def choices(n, many):
    """All choices of so many of the places of n shares."""
    return list(combinations(range(n), many))


def poly_at(setting, row, some):
    """The polynomial through the shares of the row at some places."""
    return through(setting[1], tuple([k + 1 for k in some]), tuple([row[k] for k in some]))


def readings(setting, row, e):
    """All polynomials as which the row is read with at most e wrong shares, ascending."""
    # With e at most n - t - 1 at least t + 1 shares are right, and they alone tell the polynomial.
    polys = [poly_at(setting, row, some) for some in choices(len(row), setting[3] + 1)]
    return tuple(sorted({poly for poly in polys if len(wrong(setting, row, poly)) <= e}))


def read(setting, row):
    """The number that the row is read as with (n - t - 1) // 2 wrong shares, or None."""
    _, _, n, t = setting
    # With so few wrong shares no two polynomials fit, so the first that does is the only one.
    for some in choices(n, t + 1):
        poly = poly_at(setting, row, some)
        if len(wrong(setting, row, poly)) <= (n - t - 1) // 2:
            return poly[0]
    return None


def twins(setting, e):
    """A row read with at most e wrong shares as two polynomials of unlike numbers at 0, or None."""
    _, p, n, t = setting
    if n >= t + 1 + 2 * e:
        return None
    # Both polynomials are 0 at the parties 1 to t; of the other shares, at most 2 e, each gets at most e.
    first = (0,) * (t + 1)
    second = veil(p, tuple(range(1, t + 1)))
    row = [0 if party <= t + e else value_at(p, second, party) for party in range(1, n + 1)]
    return tuple(row), first, second

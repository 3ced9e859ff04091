"""Polynomials: tuples of numbers (q0, q1, ..), q0 + q1 x + .. at x."""

from untold.field import inverse


def value_at(p, poly, x):
    """The value of a polynomial at x."""
    total = 0
    for number in reversed(poly):
        total = (total * x + number) % p
    return total


def values_at(p, poly, points):
    """The values of a polynomial at the points."""
    return tuple([value_at(p, poly, x) for x in points])


def added(p, one, other):
    """The sum of two polynomials of equally many numbers."""
    return tuple([(a + b) % p for a, b in zip(one, other)])


def scaled(p, c, poly):
    """c times a polynomial."""
    return tuple([c * number % p for number in poly])


def combined(p, factors, rows):
    """The sum of rows of equally many numbers, each times its factor."""
    return tuple([sum([c * number for c, number in zip(factors, column)]) % p for column in zip(*rows)])


def times_root(p, poly, root):
    """The product of a polynomial and (x - root)."""
    return added(p, (0, *poly), scaled(p, -root, (*poly, 0)))


def peak(p, roots, x):
    """The polynomial of one number more than there are roots that is 1 at x and 0 at each root."""
    poly = (1,)
    for root in roots:
        poly = times_root(p, poly, root)
    return scaled(p, inverse(p, value_at(p, poly, x)), poly)


def peaks(p, points):
    """For each point the polynomial that is 1 there and 0 at all others."""
    return [peak(p, points[:k] + points[k + 1:], x) for k, x in enumerate(points)]


def through(p, points, values):
    """The polynomial with as many numbers as there are points that has these values at them."""
    poly = (0,) * len(points)
    for one, value in zip(peaks(p, points), values):
        poly = added(p, poly, scaled(p, value, one))
    return poly


def weights(p, points, x):
    """The weights of points for x: what each value counts in the value at x."""
    return tuple([value_at(p, one, x) for one in peaks(p, points)])


def veil(p, points):
    """The polynomial that is 1 at 0 and 0 at each of the points."""
    return peak(p, points, 0)

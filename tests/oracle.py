"""What the tests hold the program against: the words of the document, tried one by one."""

from itertools import combinations, product


def plain_value(p, poly, x):
    """The value of a polynomial at x, power by power."""
    return sum(number * x ** k for k, number in enumerate(poly)) % p


def all_polys(p, many):
    """All polynomials of so many numbers, ascending."""
    return list(product(range(p), repeat=many))


def numbers(seed, p, many):
    """So many numbers below p that hang on the seed alone."""
    state = seed * 7919 + 12345
    found = []
    for _ in range(many):
        state = (state * 1103515245 + 12345) % 2 ** 31
        found.append((state >> 8) % p)
    return tuple(found)


def choices(some, most):
    """All choices of at most so many things."""
    return [choice for many in range(most + 1) for choice in combinations(some, many)]

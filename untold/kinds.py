"""What kind of value a thing is."""


def is_whole(thing):
    """Whether a thing is an integer; True and False are none."""
    return isinstance(thing, int) and not isinstance(thing, bool)


def is_number(p, thing):
    """Whether a thing is an integer from 0 to p - 1."""
    return is_whole(thing) and 0 <= thing < p


def are_numbers(p, thing, many):
    """Whether a thing is a tuple of so many integers from 0 to p - 1."""
    return isinstance(thing, tuple) and len(thing) == many and all([is_number(p, x) for x in thing])

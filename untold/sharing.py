"""Settings, and numbers that are shared among the parties 1 to n."""

from untold.errors import BadSetting
from untold.field import is_prime
from untold.kinds import is_whole
from untold.polys import through, value_at, values_at, veil

GREATEST_PRIME = 10007
MOST_PARTIES = 9


def is_setting(setting):
    """Whether a thing is a setting ("setting", p, n, t)."""
    if not isinstance(setting, tuple) or len(setting) != 4 or setting[0] != "setting":
        return False
    _, p, n, t = setting
    if not all([is_whole(x) for x in (p, n, t)]):
        return False
    # The bound comes first: a prime is not sought among integers of any size.
    if p > GREATEST_PRIME or not is_prime(p):
        return False
    return 1 <= n <= MOST_PARTIES and n < p and t >= 0 and 2 * t + 1 <= n


def check_setting(setting):
    """None, or raises BadSetting if a thing is no setting."""
    if not is_setting(setting):
        raise BadSetting("not a setting")


def parties_of(setting):
    """The parties 1 to n, which are the points that they stand for."""
    return tuple(range(1, setting[2] + 1))


def spread(setting, poly):
    """The values of a polynomial at all parties."""
    return values_at(setting[1], poly, parties_of(setting))


def shares(setting, s, coins):
    """The shares of all parties of a number s, shared with coins."""
    return spread(setting, (s, *coins))


def veil_of(setting, watched):
    """The veil of the watched parties and then the least other ones, t in all."""
    others = [party for party in parties_of(setting) if party not in watched]
    hidden_from = (*watched, *others)
    return veil(setting[1], hidden_from[:setting[3]])


def sharing_poly(setting, known):
    """The polynomial of t + 1 numbers with these shares, more than t of them, or None."""
    _, p, _, t = setting
    parties = tuple([party for party, _ in known[:t + 1]])
    values = tuple([share for _, share in known[:t + 1]])
    poly = through(p, parties, values)
    if all([value_at(p, poly, party) == share for party, share in known]):
        return poly
    return None


def ways(setting, known, s):
    """With how many tuples of coins the number s has the known shares."""
    _, p, _, t = setting
    if len(known) > t:
        poly = sharing_poly(setting, known)
        return 1 if poly is not None and poly[0] == s else 0
    count = 1
    for _ in range(t - len(known)):
        count = count * p
    return count


def told(setting, known):
    """The number that fits the known shares, if more than t are known and one fits; otherwise None."""
    if len(known) <= setting[3]:
        return None
    poly = sharing_poly(setting, known)
    return None if poly is None else poly[0]

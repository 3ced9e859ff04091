"""What the tests hold the program against: the words of the document, tried one by one."""

import random
from itertools import combinations, product
from math import prod

from untold.coins import coins_of
from untold.parties import Party
from untold.plain import values
from untold.programs import input_rows
from untold.views import agree

# The rows of which all items are wires.
NAMING = ("sum", "less", "product", "kept")


def plain_value(p, poly, x):
    """The value of a polynomial at x, power by power."""
    return sum(number * x ** k for k, number in enumerate(poly)) % p


def all_polys(p, many):
    """All polynomials of so many numbers, ascending."""
    return list(product(range(p), repeat=many))


def numbers(seed, p, many):
    """So many numbers below p that hang on the seed alone."""
    state = seed * 7919 + 12345
    found = []
    for _ in range(many):
        state = (state * 1103515245 + 12345) % 2 ** 31
        found.append((state >> 8) % p)
    return tuple(found)


def choices(some, most):
    """All choices of at most so many things."""
    return [choice for many in range(most + 1) for choice in combinations(some, many)]


def plain_weights(p, n):
    """The weights of the points 1 to n for 0, by their formula."""
    found = []
    for i in range(1, n + 1):
        top = prod(-m for m in range(1, n + 1) if m != i)
        bottom = prod(i - m for m in range(1, n + 1) if m != i)
        found.append(top * pow(bottom, -1, p) % p)
    return found


def trace(setting, program, inputs, coins, triples=False):
    """For each row what happens in a run, by the words of c2: the coins drawn, the polynomials dealt, the shares.

    With triples, by those of b2: for a row product the shares of the triple and what is shown to all.
    """
    _, p, n, t = setting
    every = range(1, n + 1)
    weigh = plain_weights(p, n)
    inputs, coins = iter(inputs), iter(coins)
    rows = []
    for row in program[1]:
        word, *items = row
        step = {"number": None, "coins": [], "dealt": [], "shares": None}
        rows.append(step)
        if word == "in":
            step["number"] = next(inputs)
            step["coins"] = [tuple(next(coins) for _ in range(t))]
            step["dealt"] = [(step["number"], *step["coins"][0])]
            step["shares"] = tuple(plain_value(p, step["dealt"][0], j) for j in every)
        elif word == "const":
            step["shares"] = (items[0],) * n
        elif word == "times":
            step["shares"] = tuple(items[0] * a % p for a in rows[items[1]]["shares"])
        elif word in ("sum", "less"):
            sign = {"sum": 1, "less": -1}[word]
            a, b = (rows[item]["shares"] for item in items)
            step["shares"] = tuple((a[j - 1] + sign * b[j - 1]) % p for j in every)
        elif word == "product" and triples:
            a, b = (rows[item]["shares"] for item in items)
            x, y = next(coins), next(coins)
            polys = [(number, *[next(coins) for _ in range(t)]) for number in (x, y, x * y % p)]
            xs, ys, both = (tuple(plain_value(p, poly, j) for j in every) for poly in polys)
            a_less_x = tuple((a[j - 1] - xs[j - 1]) % p for j in every)
            b_less_y = tuple((b[j - 1] - ys[j - 1]) % p for j in every)
            d, e = (sum(w * share for w, share in zip(weigh, some)) for some in (a_less_x, b_less_y))
            step["told"] = (xs, ys, both, a_less_x, b_less_y)
            step["shares"] = tuple((both[j - 1] + d * ys[j - 1] + e * xs[j - 1] + d * e) % p for j in every)
        elif word in ("product", "kept"):
            heads = [0] * n
            if word == "product":
                a, b = (rows[item]["shares"] for item in items)
                heads = [a[i - 1] * b[i - 1] % p for i in every]
            step["coins"] = [tuple(next(coins) for _ in range(t)) for _ in every]
            step["dealt"] = [(heads[i - 1], *step["coins"][i - 1]) for i in every]
            values = [[plain_value(p, poly, j) for poly in step["dealt"]] for j in every]
            if word == "product":
                step["shares"] = tuple(sum(w * x for w, x in zip(weigh, values[j - 1])) % p for j in every)
            else:
                step["shares"] = tuple((rows[items[0]]["shares"][j - 1] + sum(values[j - 1])) % p for j in every)
    return rows


def epochs_of(program):
    """The epoch of each row."""
    return [sum(row[0] == "next" for row in program[1][:k + 1]) for k in range(len(program[1]))]


def plain_view(setting, program, inputs, coins, watchers, triples=False):
    """What watchers see, by the words of v2; with triples, by those of b3."""
    p = setting[1]
    rows = trace(setting, program, inputs, coins, triples)
    found = []
    for row, step, epoch in zip(program[1], rows, epochs_of(program)):
        watched = watchers[epoch]

        def pieces(some):
            return tuple(
                step["coins"][i] if i + 1 in some else tuple(plain_value(p, poly, j) for j in some)
                for i, poly in enumerate(step["dealt"])
            )

        own = () if step["shares"] is None else tuple(step["shares"][j - 1] for j in watched)
        if row[0] == "in":
            mine = row[1] in watched
            found.append(("own", step["number"], step["coins"][0]) if mine else ("sent", own))
        elif row[0] == "product" and triples:
            parts = [tuple(some[j - 1] for j in watched) for some in step["told"][:3]]
            found.append((*parts, *step["told"][3:]) if watched else ())
        elif row[0] == "product":
            found.append(pieces(watched))
        elif row[0] == "kept":
            found.append((pieces([j for j in watched if j in watchers[epoch - 1]]), own))
        elif row[0] == "out" and row[2] in watched:
            found.append(rows[row[1]]["shares"])
        else:
            found.append(())
    return tuple(found)


def some_program(seed, setting, many):
    """A program of so many rows, or a few more, that hangs on the seed alone; all kinds of rows may stand in it."""
    _, p, n, _ = setting
    pick = random.Random(seed)
    rows = [("in", pick.randint(1, n)), ("in", pick.randint(1, n))]
    now, old, epoch = [0, 1], [], 0
    while len(rows) < many:
        word = pick.choice(("in", "const", "sum", "less", "product", "product", "times", "out", "next", "kept", "kept"))
        if word == "next":
            if epoch == 5 or len(now) < 2:
                continue
            rows.append(("next",))
            epoch, old, now = epoch + 1, now, []
            word = "kept"
        if word == "kept":
            if not old:
                continue
            rows.append(("kept", pick.choice(old)))
        elif word == "in":
            rows.append(("in", pick.randint(1, n)))
        elif word == "const":
            rows.append(("const", pick.randrange(p)))
        elif word == "times":
            rows.append(("times", pick.randrange(p), pick.choice(now)))
        elif word == "out":
            rows.append(("out", pick.choice(now), pick.randint(1, n)))
            continue
        else:
            rows.append((word, pick.choice(now), pick.choice(now)))
        now.append(len(rows) - 1)
    return ("program", tuple(rows))


def some_watchers(seed, setting, program, most):
    """Watchers of at most so many parties in each epoch, that hang on the seed alone; often some of them stay."""
    pick = random.Random(seed)
    found = [tuple(sorted(pick.sample(range(1, setting[2] + 1), pick.randint(0, most))))]
    for row in program[1]:
        if row[0] == "next":
            stay = pick.sample(found[-1], pick.randint(0, len(found[-1])))
            others = [party for party in range(1, setting[2] + 1) if party not in found[-1]]
            come = pick.sample(others, pick.randint(0, min(len(others), most - len(stay))))
            found.append(tuple(sorted(stay + come)))
    return tuple(found)


def similar_inputs(setting, program, first, watchers):
    """Rows of inputs that agree with first (test_views.py tests agree): itself, and some that differ in one or two."""
    p = setting[1]
    gaps = (0, 1, p - 1, p // 2)
    found = {first}
    for some in choices(range(len(first)), 2):
        for steps in product(gaps, repeat=len(some)):
            other = list(first)
            for at, step in zip(some, steps):
                other[at] = (other[at] + step) % p
            if agree(setting, program, first, tuple(other), watchers):
                found.add(tuple(other))
    return sorted(found)


def plain_veil(setting, some):
    """The numbers of the veil of watched parties and the least others, t in all, by multiplying out."""
    _, p, n, t = setting
    poly = [1]
    for party in [*some, *[party for party in range(1, n + 1) if party not in some]][:t]:
        # (1 - X / party) for each of them.
        turn = -pow(party, -1, p)
        poly = [(a + turn * b) % p for a, b in zip(poly + [0], [0] + poly)]
    return poly


def plain_matched(setting, program, first, second, coins, watchers, triples=False):
    """The matching of coins, by the words of m1; with triples, by those of b4."""
    _, p, n, _ = setting
    steps = trace(setting, program, first, coins, triples)
    gaps = [None if a is None else b - a
            for a, b in zip(values(setting, program, first), values(setting, program, second))]
    veils = [plain_veil(setting, some) for some in watchers]
    drawn, found = iter(coins), []

    def move(factor, poly):
        found.extend([(next(drawn) + factor * number) % p for number in poly[1:]])

    for k, (row, epoch) in enumerate(zip(program[1], epochs_of(program))):
        veil = veils[epoch]
        if row[0] == "in":
            move(gaps[k], veil)
        elif row[0] == "product" and triples:
            x, y = next(drawn), next(drawn)
            other_x, other_y = x + gaps[row[1]], y + gaps[row[2]]
            found.extend([other_x % p, other_y % p])
            for factor in (gaps[row[1]], gaps[row[2]], other_x * other_y - x * y):
                move(factor, veil)
        elif row[0] == "product":
            for i, (a, b) in enumerate(zip(steps[row[1]]["shares"], steps[row[2]]["shares"]), start=1):
                turn = plain_value(p, veil, i)
                move((a + gaps[row[1]] * turn) * (b + gaps[row[2]] * turn) - a * b, veil)
        elif row[0] == "kept":
            both = [i for i in watchers[epoch] if i in watchers[epoch - 1]]
            least = min(i for i in range(1, n + 1) if i not in both)
            for i in range(1, n + 1):
                move(gaps[row[1]] if i == least else 0, [a - b for a, b in zip(veil, veils[epoch - 1])])
    return tuple(found)


def plain_letters(setting, program, inputs, coins):
    """The letters of a run, by the words of d1."""
    _, p, n, _ = setting
    rows = trace(setting, program, inputs, coins)
    found = []
    for k, (row, step) in enumerate(zip(program[1], rows)):
        for i in range(1, n + 1):
            for j in range(1, n + 1):
                if i == j:
                    continue
                if row[0] == "in" and row[1] == i:
                    found.append(("letter", k, i, j, step["shares"][j - 1]))
                elif row[0] in ("product", "kept"):
                    found.append(("letter", k, i, j, plain_value(p, step["dealt"][i - 1], j)))
                elif row[0] == "out" and row[2] == j:
                    found.append(("letter", k, i, j, rows[row[1]]["shares"][i - 1]))
    return tuple(found)


def plain_own(setting, program, inputs, coins, party):
    """The own inputs and the own coins of a party, by the words of d2."""
    own_inputs, own_coins = [], []
    for row, step in zip(program[1], trace(setting, program, inputs, coins)):
        if row == ("in", party):
            own_inputs.append(step["number"])
            own_coins.extend(step["coins"][0])
        elif row[0] in ("product", "kept"):
            own_coins.extend(step["coins"][party - 1])
    return tuple(own_inputs), tuple(own_coins)


def has_and_made(setting, program, party, inputs, coins, took):
    """What a party with these inputs, coins and letters has, made and read, by the words of d3, all over again."""
    _, p, n, t = setting
    got = {(k, i): x for _, k, i, _, x in took}
    others = [i for i in range(1, n + 1) if i != party]
    weigh = plain_weights(p, n)
    inputs, coins = iter(inputs), iter(coins)
    shares, made, read = [], [], []
    for k, row in enumerate(program[1]):
        word, *items = row
        wires = {"times": items[1:], "out": items[:1]}.get(word, items if word in NAMING else [])
        able = all(shares[a] is not None for a in wires)
        share, own = None, None
        if row == ("in", party) or word in ("product", "kept"):
            drawn = [next(coins) for _ in range(t)]
        if word == "in":
            if items[0] == party:
                own = (next(inputs), *drawn)
                share = plain_value(p, own, party)
            else:
                share = got.get((k, items[0]))
        elif word == "const":
            share = items[0]
        elif able and word in ("sum", "less"):
            share = (shares[items[0]] + {"sum": 1, "less": -1}[word] * shares[items[1]]) % p
        elif able and word == "times":
            share = items[0] * shares[items[1]] % p
        elif able and word in ("product", "kept"):
            own = ((shares[items[0]] * shares[items[1]] % p if word == "product" else 0), *drawn)
            if all((k, i) in got for i in others):
                pieces = [plain_value(p, own, party) if i == party else got[(k, i)] for i in range(1, n + 1)]
                if word == "product":
                    share = sum(w * x for w, x in zip(weigh, pieces)) % p
                else:
                    share = (shares[items[0]] + sum(pieces)) % p
        elif able and word == "out" and items[1] != party:
            made.append(("letter", k, party, items[1], shares[items[0]]))
        elif able and word == "out" and all((k, i) in got for i in others):
            row_read = [shares[items[0]] if i == party else got[(k, i)] for i in range(1, n + 1)]
            read.append((k, plain_read(setting, row_read)))
        if own is not None:
            made.extend([("letter", k, party, j, plain_value(p, own, j)) for j in others])
        shares.append(share)
    return tuple(shares), tuple(made), tuple(read)


def plain_read(setting, row):
    """The number that a row is read as with (n - t - 1) // 2 wrong shares, None if none, by interpolation."""
    _, p, n, t = setting
    for some in combinations(range(1, n + 1), t + 1):
        def value(x):
            total = 0
            for i in some:
                top = prod(x - m for m in some if m != i)
                bottom = prod(i - m for m in some if m != i)
                total += row[i - 1] * top * pow(bottom, -1, p)
            return total % p

        if sum(value(i) != row[i - 1] for i in range(1, n + 1)) <= (n - t - 1) // 2:
            return value(0)
    return None


def some_run(seed, setting, many):
    """A program of so many rows, or a few more, with its inputs and coins, that hang on the seed alone."""
    program = some_program(seed, setting, many)
    inputs = numbers(seed, setting[1], len(input_rows(program)))
    return program, inputs, numbers(seed + 7, setting[1], coins_of(setting, program))


def fresh(setting, program, inputs, coins):
    """The parties of a run without any letters."""
    every = range(1, setting[2] + 1)
    return [Party(setting, program, i, *plain_own(setting, program, inputs, coins, i)) for i in every]

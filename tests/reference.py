"""Points 8 and 9 once more, plainly and slowly, to hold the program's answers against."""

import collections
import itertools

from crankdrum.deeds import done
from crankdrum.machines import begin
from tests.samples import highest_place, spelt, worth


def simulated(machine, book, values):
    """(wheels, counts), or the number of the deed that can't be done; each turn is done."""
    inputs, deeds, claims = book
    stand = begin(machine)
    for at, deed in enumerate(deeds):
        stand = after(machine, values, stand, deed)
        if stand is None:
            return at
    return worth(machine[0], stand[2]), worth(machine[0], stand[3])


def after(machine, values, stand, deed):
    word, *rest = deed
    if word == "load":
        return (spelt(machine[0], values[rest[0]], machine[1]),) + stand[1:]
    if word == "one":
        return (spelt(machine[0], 1, machine[1]),) + stand[1:]
    if word == "shift":
        there = 0 <= stand[1] + rest[0] <= highest_place(machine)
        return done(machine, stand, deed)[0] if there else None
    if word == "turns":
        for turn in range(values[rest[0]] // machine[0] ** rest[1] % machine[0]):
            stand = done(machine, stand, ("turn", rest[2], rest[3]))[0]
        return stand
    if word == "bell":
        return until_the_bell(machine, stand, rest[0], 0) if any(stand[0]) else None
    if word == "odds":
        return until_the_bell(machine, stand, rest[0], 2)
    return done(machine, stand, deed)[0]


def until_the_bell(machine, stand, tally, more):
    while True:
        stand, rang = done(machine, stand, ("turn", -1, tally))
        if rang:
            return done(machine, stand, ("turn", 1, 0 - tally))[0]
        number = worth(machine[0], stand[0]) + more
        if number >= machine[0] ** machine[1]:
            return None
        stand = (spelt(machine[0], number, machine[1]),) + stand[1:]


def side_number(side, values, end):
    """What a side comes to at the end: end is (wheels, counts)."""
    word, *rest = side
    if word == "num":
        return rest[0]
    if word == "input":
        return values[rest[0]]
    if word in ("add", "times"):
        one, other = (side_number(part, values, end) for part in rest)
        return one + other if word == "add" else one * other
    return end[("wheels", "counts").index(word)]


def claim_holds(claim, values, end):
    one, other = (side_number(side, values, end) for side in claim[1:])
    return one == other if claim[0] == "same" else one < other


def all_values(machine, inputs):
    """All values that a handbook's inputs may have."""
    rows = [range(least, machine[0] ** figures) for name, figures, least in inputs]
    for row in itertools.product(*rows):
        yield {name: value for (name, figures, least), value in zip(inputs, row)}


def many_values(machine, inputs):
    many = 1
    for name, figures, least in inputs:
        many *= machine[0] ** figures - least
    return many


class Poly(collections.Counter):
    """Shares by products; a product is a frozenset of (letter, how often)."""

    def __add__(self, other):
        total = Poly(self)
        for product, share in other.items():
            total[product] += share
        return total.clean()

    def __mul__(self, other):
        if isinstance(other, int):
            return Poly({product: share * other for product, share in self.items()}).clean()
        total = Poly()
        for (one, share), (two, by) in itertools.product(self.items(), other.items()):
            powers = collections.Counter(dict(one))
            powers.update(dict(two))
            total[frozenset(powers.items())] += share * by
        return total.clean()

    def clean(self):
        return Poly({product: share for product, share in self.items() if share})


def number(n):
    return Poly({frozenset(): n}).clean()


def letter(name):
    return Poly({frozenset({(name, 1)}): 1})


def root(n):
    """The greatest whole number whose square is no more than n, a figure of it at a time."""
    r = 0
    for by in (10 ** 9, 10 ** 8, 10 ** 7, 10 ** 6, 10 ** 5, 10 ** 4, 1000, 100, 10, 1):
        while (r + by) ** 2 <= n:
            r += by
    return r


def judged(machine, book):
    """What point 9 tells of a handbook, word for word."""
    base, slides, wheels, counters = machine
    inputs, deeds, claims = book
    greatest = {(name, k): base - 1 for name, figures, least in inputs for k in range(figures)}
    value, bounds = {}, {}
    for name, figures, least in inputs:
        value[name] = Poly()
        for k in range(figures):
            value[name] = value[name] + letter((name, k)) * base ** k
        bounds[name] = (least, base ** figures - 1)
    w, wl, wh = Poly(), 0, 0
    c, cl, ch = Poly(), 0, 0
    s, sl, sh = Poly(), 0, 0
    place, u = 0, None
    for at, (word, *rest) in enumerate(deeds):
        p = base ** max(place, 0)
        many, ml, mh, tally = Poly(), 0, 0, 0
        if word == "load":
            s, (sl, sh) = value[rest[0]], bounds[rest[0]]
        elif word == "one":
            s, sl, sh = number(1), 1, 1
        elif word == "shift":
            place += rest[0]
            if place < 0 or place > highest_place(machine):
                return at, "shift"
        elif word == "wipe":
            if rest[0] == "wheels":
                w, wl, wh, u = Poly(), 0, 0, None
            else:
                c, cl, ch = Poly(), 0, 0
        elif word in ("turn", "turns"):
            if word == "turn":
                way, tally = rest
                many, ml, mh = number(1), 1, 1
                low, high = sl * p, sh * p
            else:
                name, k, way, tally = rest
                many, ml, mh = letter((name, k)), 0, base - 1
                low, high = 0, (base - 1) * sh * p
            if way == 1:
                w, wl, wh = w + many * s * p, wl + low, wh + high
            else:
                w, wl, wh = w + many * s * (0 - p), wl - high, wh - low
            u = None
            if wl < 0 or wh >= base ** wheels:
                return at, "over"
        elif word == "bell":
            tally, = rest
            if sl == 0:
                return at, "zero"
            mh = wh // (sl * p)
            if u is not None and u[0] == s and p <= u[1]:
                mh = min(mh, u[1] // p - 1)
            greatest[at] = mh
            many = letter(at)
            w, wl, wh = w + many * s * (0 - p), 0, min(wh, sh * p - 1)
            u = (s, p)
        elif word == "odds":
            tally, = rest
            if s != number(1):
                return at, "odds"
            mh = root(wh // p)
            if 2 * mh + 1 >= base ** slides:
                return at, "odds"
            greatest[at] = mh
            many = letter(at)
            s, sl, sh = many * 2 + number(1), 1, 2 * mh + 1
            w, wl, wh = w + many * many * (0 - p), 0, min(wh, sh * p - 1)
            u = (s, p)
        if word in ("turn", "turns", "bell", "odds"):
            c = c + many * (tally * p)
            cl, ch = (cl + tally * ml * p, ch + tally * mh * p) if tally >= 0 else (cl - mh * p, ch - ml * p)
            if cl < 0 or ch >= base ** counters:
                return at, "counts"
    there = {"wheels": w, "counts": c}
    for at, (word, *sides) in enumerate(claims):
        one, other = (side_poly(side, value, there) for side in sides)
        gap = other + one * -1
        if word == "same":
            so = not gap
        else:
            so = u is not None and gap == u[0] * u[1] + w * -1 or lowest(gap, greatest) >= 1
        if not so:
            return at, "claim"
    return None


def lowest(gap, greatest):
    total = 0
    for product, share in gap.items():
        for name, often in product:
            share = min(share, 0) * greatest[name] ** often
        total += share
    return total


def side_poly(side, value, there):
    word, *rest = side
    if word == "num":
        return number(rest[0])
    if word == "input":
        return value[rest[0]]
    if word in ("add", "times"):
        one, other = (side_poly(part, value, there) for part in rest)
        return one + other if word == "add" else one * other
    return there[word]

"""Handbooks by chance, the same ones in every run."""

from crankdrum.looking import looked

NAMES = ("a", "ab", "aba", "b", "abcdefgh", "n", "nn", "z")

SMALL_MACHINES = (
    (2, 1, 3, 2),
    (2, 2, 5, 4),
    (2, 3, 6, 5),
    (3, 1, 3, 3),
    (3, 2, 5, 3),
    (4, 2, 4, 3),
    (5, 1, 4, 3),
    (10, 1, 4, 3),
)


def some_inputs(rng, machine, most_values):
    """None to four inputs that have no more values together than told."""
    inputs, many = [], 1
    for name in rng.sample(NAMES, rng.randrange(5)):
        figures, least = rng.randrange(1, machine[1] + 1), rng.randrange(2)
        many *= machine[0] ** figures - least
        if many > most_values:
            break
        inputs.append((name, figures, least))
    return tuple(inputs)


def some_deed(rng, inputs):
    tally = rng.choice((-1, 0, 0, 1, 1))
    way = rng.choice((1, 1, 1, -1))
    kinds = ["one", "shift", "shift", "turn", "bell", "bell", "odds", "wipe"]
    if inputs:
        kinds += ["load", "load", "turns", "turns"]
    kind = rng.choice(kinds)
    if kind == "one":
        return ("one",)
    if kind == "shift":
        return ("shift", rng.choice((-2, -1, -1, 0, 1, 1, 2)))
    if kind == "turn":
        return ("turn", way, tally)
    if kind in ("bell", "odds"):
        return (kind, tally)
    if kind == "wipe":
        return ("wipe", rng.choice(("wheels", "counts")))
    name, figures, least = rng.choice(inputs)
    if kind == "load":
        return ("load", name)
    return ("turns", name, rng.randrange(figures), way, tally)


def some_side(rng, inputs, deep):
    kinds = ["num", "num", "wheels", "counts"] + ["input"] * (2 * len(inputs))
    if deep > 1:
        kinds += ["add", "times"] * 2
    kind = rng.choice(kinds)
    if kind == "num":
        return ("num", rng.choice((0, 1, 1, 2, 3, 9, 10, 100, 10 ** 9)))
    if kind == "input":
        return ("input", rng.choice(inputs)[0])
    if kind in ("add", "times"):
        return (kind, some_side(rng, inputs, deep - 1), some_side(rng, inputs, deep - 1))
    return (kind,)


def turned_round(rng, side):
    """A side that comes to the same: what it adds and multiplies stands in another order."""
    if side[0] not in ("add", "times"):
        return side
    one, other = turned_round(rng, side[1]), turned_round(rng, side[2])
    if side[0] == "times" and one[0] == "add" and rng.randrange(2):
        return ("add", ("times", one[1], other), ("times", other, one[2]))
    return (side[0], other, one)


def deep_of(side):
    return 1 + max(deep_of(side[1]), deep_of(side[2])) if side[0] in ("add", "times") else 1


def some_claim(rng, inputs):
    one = some_side(rng, inputs, rng.randrange(1, 5))
    kind = rng.randrange(5)
    if kind == 0:
        return (rng.choice(("same", "less")), one, some_side(rng, inputs, rng.randrange(1, 5)))
    if kind < 3:
        other = turned_round(rng, one)
        return ("same", one, other if deep_of(other) < 5 else one)
    other = ("num", rng.choice((1, 2, 9, 10, 82, 1000)))
    if deep_of(one) < 4 and rng.randrange(2):
        return ("less", one, ("add", one, other))
    return ("less", one, other)


def some_book(rng, machine, most_values, most_deeds):
    """Any handbook, whether let by or not."""
    inputs = some_inputs(rng, machine, most_values)
    deeds = tuple(some_deed(rng, inputs) for at in range(rng.randrange(most_deeds + 1)))
    return inputs, deeds, tuple(some_claim(rng, inputs) for at in range(rng.randrange(3)))


def grown_deeds(rng, machine, inputs, tries):
    """Deeds that are let by: each one that isn't, behind those before it, is left out."""
    deeds = ()
    for at in range(tries):
        longer = deeds + (some_deed(rng, inputs),)
        if looked(machine, (inputs, longer, ())) is None:
            deeds = longer
    return deeds

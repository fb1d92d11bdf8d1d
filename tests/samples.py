"""Machines, stands and plain sums for the tests, made without the program."""

import random

GOOD_MACHINES = (
    (2, 1, 1, 1),
    (2, 3, 5, 4),
    (2, 6, 16, 10),
    (3, 2, 2, 5),
    (7, 4, 9, 2),
    (10, 1, 4, 10),
    (10, 3, 6, 4),
    (10, 6, 6, 6),
    (10, 6, 16, 10),
    (12, 1, 16, 1),
    (12, 6, 16, 10),
    (12, 5, 7, 10),
)

BAD_MACHINES = (
    (1, 3, 6, 4),
    (13, 3, 6, 4),
    (0, 3, 6, 4),
    (-10, 3, 6, 4),
    (10, 0, 6, 4),
    (10, 0, 0, 4),
    (10, -1, 6, 4),
    (10, 7, 8, 4),
    (10, 7, 16, 4),
    (10, 3, 2, 4),
    (10, 6, 5, 4),
    (10, 1, 0, 4),
    (10, 3, 17, 4),
    (10, 3, 6, 0),
    (10, 3, 6, -1),
    (10, 3, 6, 11),
    (),
    (10,),
    (10, 3),
    (10, 3, 6),
    (10, 3, 6, 4, 1),
    (10, 3, 6, 4, 0, 0),
)


def chance(seed):
    """A row of numbers that is the same in every run."""
    return random.Random(seed)


def highest_place(machine):
    base, slides, wheels, counters = machine
    return wheels - slides if wheels - slides < counters - 1 else counters - 1


def worth(base, row):
    return sum(figure * base ** at for at, figure in enumerate(row))


def spelt(base, number, many):
    return tuple(number // base ** at % base for at in range(many))


def some_row(rng, base, many):
    """A row in which noughts and highest figures are frequent, so that carries run far."""
    kind = rng.randrange(4)
    if kind == 0:
        return tuple(rng.randrange(base) for at in range(many))
    if kind == 1:
        return tuple(rng.choice((0, base - 1)) for at in range(many))
    if kind == 2:
        return tuple(rng.choice((base - 1, base - 1, base - 1, rng.randrange(base))) for at in range(many))
    return tuple(rng.choice((0, 0, 0, rng.randrange(base))) for at in range(many))


def some_stand(rng, machine):
    base, slides, wheels, counters = machine
    return (
        some_row(rng, base, slides),
        rng.randrange(highest_place(machine) + 1),
        some_row(rng, base, wheels),
        some_row(rng, base, counters),
    )


def many_stands(seed, each):
    """So many (machine, stand) for each of the good machines."""
    rng = chance(seed)
    return [(machine, some_stand(rng, machine)) for machine in GOOD_MACHINES for turn in range(each)]

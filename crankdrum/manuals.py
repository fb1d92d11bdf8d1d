"""Manuals: handbooks that multiply, divide and take roots."""

from crankdrum.errors import TooSmall
from crankdrum.machines import need_machine, power, top
from crankdrum.roots import root_of

WHEELS = ("wheels",)
COUNTS = ("counts",)


def product(machine, one, other):
    """The handbook that has a times b on the wheels, b on the counts."""
    need_machine(machine)
    need_slides(machine, one)
    need_slides(machine, other)
    need_places(machine, other)
    if one + other > machine[2]:
        raise TooSmall(f"there are too few wheels for {one} and {other} figures")
    deeds = [("load", "a")]
    for k in range(other):
        if k > 0:
            deeds.append(("shift", 1))
        deeds.append(("turns", "b", k, 1, 1))
    claims = (
        ("same", WHEELS, ("times", ("input", "a"), ("input", "b"))),
        ("same", COUNTS, ("input", "b")),
    )
    return (("a", one, 0), ("b", other, 0)), tuple(deeds), claims


def quotient(machine, one, other):
    """The handbook that has n by d on the counts, the rest on the wheels."""
    need_machine(machine)
    need_slides(machine, one)
    need_slides(machine, other)
    need_places(machine, one)
    deeds = [("load", "n"), ("turn", 1, 0), ("load", "d"), ("shift", one - 1)]
    for k in range(one):
        if k > 0:
            deeds.append(("shift", -1))
        deeds.append(("bell", 1))
    claims = (
        ("same", ("add", WHEELS, ("times", COUNTS, ("input", "d"))), ("input", "n")),
        ("less", WHEELS, ("input", "d")),
    )
    return (("n", one, 0), ("d", other, 1)), tuple(deeds), claims


def root(machine, one):
    """The handbook that has the root of n on the counts, the rest on the wheels."""
    need_machine(machine)
    need_slides(machine, one)
    base, slides, wheels, counters = machine
    greatest = root_of(power(base, one) - 1)
    if 2 * greatest + 1 >= power(base, slides):
        raise TooSmall(f"the slides can't tell {2 * greatest + 1}")
    if greatest >= power(base, counters):
        raise TooSmall(f"the counters can't tell {greatest}")
    deeds = (("load", "n"), ("turn", 1, 0), ("one",), ("odds", 1))
    twice_and_one = ("add", ("add", COUNTS, COUNTS), ("num", 1))
    claims = (
        ("same", ("add", WHEELS, ("times", COUNTS, COUNTS)), ("input", "n")),
        ("less", WHEELS, twice_and_one),
    )
    return (("n", one, 0),), deeds, claims


def need_slides(machine, many):
    """Refuse more figures than there are slides."""
    if many > machine[1]:
        raise TooSmall(f"there are too few slides for {many} figures")


def need_places(machine, many):
    """Refuse more figures than there are places for the carriage."""
    if many > top(machine) + 1:
        raise TooSmall(f"there are too few places for {many} figures")

"""Machines, stands, and rows of figures."""

from crankdrum.errors import BadMachine

LEAST_BASE = 2
MOST_BASE = 12
MOST_SLIDES = 6
MOST_WHEELS = 16
MOST_COUNTERS = 10


def need_machine(machine):
    """Refuse what is no machine."""
    if len(machine) != 4:
        raise BadMachine("a machine has four numbers")
    base, slides, wheels, counters = machine
    if not LEAST_BASE <= base <= MOST_BASE:
        raise BadMachine(f"no machine has the base {base}")
    if not 1 <= slides <= MOST_SLIDES:
        raise BadMachine(f"no machine has {slides} slides")
    if not slides <= wheels <= MOST_WHEELS:
        raise BadMachine(f"no machine with {slides} slides has {wheels} wheels")
    if not 1 <= counters <= MOST_COUNTERS:
        raise BadMachine(f"no machine has {counters} counters")


def top(machine):
    """The carriage's last place."""
    need_machine(machine)
    base, slides, wheels, counters = machine
    return min(wheels - slides, counters - 1)


def begin(machine):
    """The stand with nothing but noughts."""
    need_machine(machine)
    base, slides, wheels, counters = machine
    return (0,) * slides, 0, (0,) * wheels, (0,) * counters


def told(base, figures):
    """The number that a row of figures tells, the lowest figure first."""
    number = 0
    for figure in reversed(figures):
        number = number * base + figure
    return number


def figures_of(base, number, many):
    """So many figures of a number, the lowest first."""
    figures = []
    for at in range(many):
        figures.append(number % base)
        number //= base
    return tuple(figures)


def power(base, place):
    """The base's power of a place: what 1 at this place is worth."""
    worth = 1
    for at in range(place):
        worth *= base
    return worth

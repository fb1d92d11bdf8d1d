"""Deeds: what can be done on a stand."""

from crankdrum.errors import BadDeed
from crankdrum.machines import begin, figures_of, need_machine, power, told, top
from crankdrum.wheels import settled, spun

WAYS = (1, -1)
TALLIES = (-1, 0, 1)


def done(machine, stand, deed):
    """A deed done on a stand: (stand, rang)."""
    need_machine(machine)
    match deed:
        case ("set", slide, figure):
            return with_slide(machine, stand, slide, figure), False
        case ("shift", by):
            return shifted(machine, stand, by), False
        case ("turn", way, tally):
            return turned(machine, stand, way, tally)
        case ("wipe", word):
            return wiped(machine, stand, word), False
    raise BadDeed("there is no such deed")


def with_slide(machine, stand, slide, figure):
    """The stand with a figure on a slide."""
    setting, place, wheels, counts = stand
    if not 0 <= slide < machine[1]:
        raise BadDeed(f"there is no slide {slide}")
    if not 0 <= figure < machine[0]:
        raise BadDeed(f"there is no figure {figure}")
    fresh = tuple(figure if at == slide else held for at, held in enumerate(setting))
    return fresh, place, wheels, counts


def shifted(machine, stand, by):
    """The stand with the carriage's place greater by a number."""
    setting, place, wheels, counts = stand
    if not 0 <= place + by <= top(machine):
        raise BadDeed(f"there is no place {place + by}")
    return setting, place + by, wheels, counts


def turned(machine, stand, way, tally):
    """A turn: (stand, rang)."""
    if way not in WAYS:
        raise BadDeed(f"there is no way {way}")
    if tally not in TALLIES:
        raise BadDeed(f"there is no tally {tally}")
    moved, levers = spun(machine, stand, way)
    wheels, rang = settled(machine, moved, levers, [], way)
    setting, place = stand[:2]
    return (setting, place, wheels, counted(machine, stand, tally)), rang


def counted(machine, stand, tally):
    """The counts with a tally more at the carriage's place."""
    base, slides, wheels, counters = machine
    number = told(base, stand[3]) + tally * power(base, stand[1])
    return figures_of(base, number % power(base, counters), counters)


def wiped(machine, stand, word):
    """The stand with all figures of what the word tells at 0."""
    setting, place, wheels, counts = stand
    noughts = begin(machine)
    if word == "setting":
        return noughts[0], place, wheels, counts
    if word == "wheels":
        return setting, place, noughts[2], counts
    if word == "counts":
        return setting, place, wheels, noughts[3]
    raise BadDeed(f"there is no word {word} to wipe")

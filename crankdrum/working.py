"""Handbooks worked: their deeds done with values for their inputs.

The four numbers here are what a stand's rows tell, and its place: (setting, place, wheels, counts).
"""

from crankdrum.books import need_book
from crankdrum.errors import BadValue, Stuck
from crankdrum.machines import figures_of, power, top
from crankdrum.roots import root_of


def worked(machine, book, values):
    """A handbook done from begin on: (wheels, counts), the numbers there at the end."""
    need_book(machine, book)
    inputs, deeds, claims = book
    need_values(machine, inputs, values)
    numbers = (0, 0, 0, 0)
    for at, deed in enumerate(deeds):
        numbers = behind(machine, values, numbers, deed)
        if numbers is None:
            raise Stuck(at)
    setting, place, wheels, counts = numbers
    return wheels, counts


def need_values(machine, inputs, values):
    """Refuse values that aren't just these inputs' values."""
    if len(values) != len(inputs):
        raise BadValue("there are not as many values as inputs")
    for name, many, least in inputs:
        if name not in values:
            raise BadValue(f"there is no value for {name}")
        if not least <= values[name] < power(machine[0], many):
            raise BadValue(f"{name} can't have such a value")


def behind(machine, values, numbers, deed):
    """The four numbers behind a deed, None where it can't be done."""
    setting, place, wheels, counts = numbers
    match deed:
        case ("load", name):
            return values[name], place, wheels, counts
        case ("one",):
            return 1, place, wheels, counts
        case ("shift", by):
            return shifted(machine, numbers, by)
        case ("turn", way, tally):
            return turned(machine, numbers, 1, way, tally)
        case ("turns", name, k, way, tally):
            many = figures_of(machine[0], values[name], k + 1)[k]
            return turned(machine, numbers, many, way, tally)
        case ("bell", tally):
            return rung(machine, numbers, tally)
        case ("odds", tally):
            return odds_turned(machine, numbers, tally)
        case ("wipe", "wheels"):
            return setting, place, 0, counts
    return setting, place, wheels, 0


def shifted(machine, numbers, by):
    """The carriage's place greater by a number."""
    setting, place, wheels, counts = numbers
    if not 0 <= place + by <= top(machine):
        return None
    return setting, place + by, wheels, counts


def turned(machine, numbers, many, way, tally):
    """So many turns."""
    base, slides, all_wheels, counters = machine
    setting, place, wheels, counts = numbers
    worth = power(base, place)
    moved = (wheels + way * many * setting * worth) % power(base, all_wheels)
    counted = (counts + tally * many * worth) % power(base, counters)
    return setting, place, moved, counted


def rung(machine, numbers, tally):
    """Turns until the bell rings, and one back."""
    setting, place, wheels, counts = numbers
    if setting == 0:
        return None
    # The turn that rings and the one back undo each other, so what is left are those before them.
    many = wheels // (setting * power(machine[0], place))
    return turned(machine, numbers, many, -1, tally)


def odds_turned(machine, numbers, tally):
    """Turns, the slides telling two more behind each, until the bell rings, and one back."""
    base, slides, all_wheels, counters = machine
    setting, place, wheels, counts = numbers
    worth = power(base, place)
    many = odds_before(wheels // worth, setting)
    if setting + 2 * many >= power(base, slides):
        return None
    # So many turns with two more behind each take away as much as if each took their middle.
    middle = (setting + many - 1, place, wheels, counts)
    moved, counted = turned(machine, middle, many, -1, tally)[2:]
    return setting + 2 * many, place, moved, counted


def odds_before(number, first):
    """How many of first, first + 2, first + 4 and so on a number has in it, taken from the first on."""
    # They come to many * (many + first - 1); four of that and a square make one greater square.
    short = first - 1
    return (root_of(4 * number + short * short) - short) // 2

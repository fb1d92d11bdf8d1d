"""Handbooks: what they are made of."""

from crankdrum.deeds import TALLIES, WAYS
from crankdrum.errors import BadBook
from crankdrum.machines import need_machine

SMALL_LETTERS = "abcdefghijklmnopqrstuvwxyz"
LONGEST_NAME = 8
NO_NAMES = ("wheels", "counts")
LEASTS = (0, 1)
WIPED = ("wheels", "counts")
CLAIM_WORDS = ("same", "less")

MOST_INPUTS = 4
MOST_DEEDS = 40
MOST_CLAIMS = 8
MOST_DEEP = 4
MOST_NUMBER = 1000000000


def need_book(machine, book):
    """Refuse what is no handbook for a machine."""
    need_machine(machine)
    inputs, deeds, claims = book
    need_inputs(machine, inputs)
    figures = {name: many for name, many, least in inputs}
    need_deeds(figures, deeds)
    need_claims(figures, claims)


def need_inputs(machine, inputs):
    """Refuse what are no inputs."""
    if len(inputs) > MOST_INPUTS:
        raise BadBook(0, "input")
    names = []
    for at, row in enumerate(inputs):
        if not is_input(machine, row, names):
            raise BadBook(at, "input")
        names.append(row[0])


def need_deeds(figures, deeds):
    """Refuse what are no deeds, figures telling how many each input has."""
    if len(deeds) > MOST_DEEDS:
        raise BadBook(0, "deed")
    for at, deed in enumerate(deeds):
        if not is_deed(figures, deed):
            raise BadBook(at, "deed")


def need_claims(figures, claims):
    """Refuse what are no claims."""
    if len(claims) > MOST_CLAIMS:
        raise BadBook(0, "claim")
    for at, claim in enumerate(claims):
        if not is_claim(figures, claim):
            raise BadBook(at, "claim")


def is_input(machine, row, names):
    """Whether a row is an input behind those that have the names."""
    if len(row) != 3:
        return False
    name, many, least = row
    if name in names or not is_name(name):
        return False
    return 1 <= many <= machine[1] and least in LEASTS


def is_name(name):
    """Whether a text is an input's name."""
    if not 1 <= len(name) <= LONGEST_NAME or name in NO_NAMES:
        return False
    return all(letter in SMALL_LETTERS for letter in name)


def is_deed(figures, deed):
    """Whether a tuple is a deed of handbooks whose inputs have so many figures."""
    match deed:
        case ("load", name):
            return name in figures
        case ("one",):
            return True
        case ("shift", by):
            # Whether there is such a place is known only where the deed is done.
            return True
        case ("turn", way, tally):
            return way in WAYS and tally in TALLIES
        case ("wipe", word):
            return word in WIPED
        case ("turns", name, k, way, tally):
            return name in figures and 0 <= k < figures[name] and way in WAYS and tally in TALLIES
        case ("bell", tally):
            return tally in TALLIES
        case ("odds", tally):
            return tally in TALLIES
    return False


def is_claim(figures, claim):
    """Whether a tuple is a claim of handbooks with these inputs."""
    if len(claim) != 3 or claim[0] not in CLAIM_WORDS:
        return False
    return is_side(figures, claim[1], MOST_DEEP) and is_side(figures, claim[2], MOST_DEEP)


def is_side(figures, side, deep):
    """Whether a tuple is a claim's side, no more than so many deep."""
    if deep == 0:
        return False
    match side:
        case ("num", number):
            return 0 <= number <= MOST_NUMBER
        case ("wheels",):
            return True
        case ("counts",):
            return True
        case ("input", name):
            return name in figures
        case ("add", one, other):
            return is_side(figures, one, deep - 1) and is_side(figures, other, deep - 1)
        case ("times", one, other):
            return is_side(figures, one, deep - 1) and is_side(figures, other, deep - 1)
    return False

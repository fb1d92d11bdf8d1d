"""Handbooks looked over: whether they hold, whatever their inputs are."""

from crankdrum.books import need_book
from crankdrum.known import Known
from crankdrum.sums import least_of, number_sum, plus, times


def looked(machine, book):
    """None if a handbook is let by, else (number, word) of the first thing that isn't."""
    need_book(machine, book)
    inputs, deeds, claims = book
    known = Known(machine, inputs)
    for at, deed in enumerate(deeds):
        word = known.did(deed)
        if word is not None:
            return at, word
    for at, claim in enumerate(claims):
        if not is_so(known, claim):
            return at, "claim"
    return None


def is_so(known, claim):
    """Whether what is known bears a claim out."""
    word, one, other = claim
    gap = plus(side_sum(known, other), -1, side_sum(known, one))
    if word == "same":
        return gap == {}
    if known.fact is not None:
        bound, end = known.fact
        if gap == plus(plus({}, end, bound), -1, known.wheels[0]):
            return True
    return least_of(gap, known.greatest) >= 1


def side_sum(known, side):
    """A claim's side as a sum of products of letters."""
    match side:
        case ("num", number):
            return number_sum(number)
        case ("wheels",):
            return known.wheels[0]
        case ("counts",):
            return known.counts[0]
        case ("input", name):
            return known.row_of(name)[0]
        case ("add", one, other):
            return plus(side_sum(known, one), 1, side_sum(known, other))
    return times(side_sum(known, side[1]), side_sum(known, side[2]))

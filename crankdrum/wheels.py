"""The figure wheels: the first part of a turn, and the carries behind it."""

from crankdrum.machines import need_machine


def gone_on(base, figure, by):
    """A wheel that goes on by so many, forward or back: (its figure, whether it went round)."""
    far = figure + by
    return far % base, not 0 <= far < base


def spun(machine, stand, way):
    """The first part of a turn: (wheels, levers), the levers that are up behind it."""
    need_machine(machine)
    base = machine[0]
    setting, place, wheels, counts = stand
    row = list(wheels)
    levers = []
    for slide, figure in enumerate(setting):
        wheel = place + slide
        # A place beyond top is no error here: wheels that there aren't don't move.
        if 0 <= wheel < len(row):
            row[wheel], rounded = gone_on(base, row[wheel], way * figure)
            if rounded:
                levers.append(wheel)
    return tuple(row), levers


def carried(machine, wheels, levers, wheel, way):
    """One lever done: (wheels, levers, rang)."""
    need_machine(machine)
    row = list(wheels)
    left = [lever for lever in levers if lever != wheel]
    follower = wheel + 1
    rang = follower >= len(row)
    if not rang:
        row[follower], rounded = gone_on(machine[0], row[follower], way)
        if rounded and follower not in left:
            left.append(follower)
    return tuple(row), sorted(left), rang


def settled(machine, wheels, levers, order, way):
    """All levers done, those of order first: (wheels, rang)."""
    need_machine(machine)
    row = tuple(wheels)
    left = list(levers)
    rang = False
    for wheel in order:
        if wheel in left:
            row, left, bell = carried(machine, row, left, wheel, way)
            rang = rang or bell
    while left:
        row, left, bell = carried(machine, row, left, min(left), way)
        rang = rang or bell
    return row, rang

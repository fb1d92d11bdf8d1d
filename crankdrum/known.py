"""What is known of a machine in the middle of a handbook, whatever its inputs are.

An amount is a tuple (terms, low, high): a sum of products of letters, and bounds for what it comes to.
"""

from crankdrum.machines import power, top
from crankdrum.roots import root_of
from crankdrum.sums import letter_sum, number_sum, plus, times


def number_amount(number):
    """The amount that is a number."""
    return number_sum(number), number, number


def with_more(held, by, more):
    """One amount and by times another."""
    ends = (by * more[1], by * more[2])
    return plus(held[0], by, more[0]), held[1] + min(ends), held[2] + max(ends)


def multiplied(one, other):
    """One amount times another, both of them nowhere below 0."""
    return times(one[0], other[0]), one[1] * other[1], one[2] * other[2]


def fits(held, end):
    """Whether an amount is nowhere below 0 and everywhere below the end."""
    return held[1] >= 0 and held[2] < end


class Known:
    """What is known of wheels, counts, slides and place; each deed makes it what is known behind it.

    A deed tells the word that is against it, None if it is let by.
    """

    def __init__(self, machine, inputs):
        base, slides, wheels, counters = machine
        self.base = base
        self.last_place = top(machine)
        self.setting_end = power(base, slides)
        self.wheels_end = power(base, wheels)
        self.counts_end = power(base, counters)
        self.greatest = []
        self.rows = {}
        self.leasts = {}
        for name, many, least in inputs:
            self.rows[name] = [self.letter(base - 1) for k in range(many)]
            self.leasts[name] = least
        self.setting = number_amount(0)
        self.wheels = number_amount(0)
        self.counts = number_amount(0)
        self.place = 0
        # The fact u: (U, E) where the wheels are less than U times E, or None.
        self.fact = None

    def letter(self, greatest):
        """A new letter that goes from 0 to its greatest number, as an amount."""
        self.greatest.append(greatest)
        return letter_sum(len(self.greatest) - 1), 0, greatest

    def row_of(self, name):
        """An input's value, as an amount."""
        total = {}
        for k, figure in enumerate(self.rows[name]):
            total = plus(total, power(self.base, k), figure[0])
        return total, self.leasts[name], power(self.base, len(self.rows[name])) - 1

    def did(self, deed):
        """Do a deed of a handbook."""
        match deed:
            case ("load", name):
                self.setting = self.row_of(name)
                return None
            case ("one",):
                self.setting = number_amount(1)
                return None
            case ("shift", by):
                return self.shifted(by)
            case ("turn", way, tally):
                return self.turned(number_amount(1), way, tally)
            case ("turns", name, k, way, tally):
                return self.turned(self.rows[name][k], way, tally)
            case ("bell", tally):
                return self.rung(tally)
            case ("odds", tally):
                return self.odds_turned(tally)
        return self.wiped(deed[1])

    def wiped(self, word):
        """Make the wheels or the counts 0."""
        if word == "wheels":
            self.wheels = number_amount(0)
            self.fact = None
        else:
            self.counts = number_amount(0)
        return None

    def shifted(self, by):
        """Move the carriage."""
        self.place += by
        return None if 0 <= self.place <= self.last_place else "shift"

    def turned(self, many, way, tally):
        """Turn as often as an amount tells."""
        worth = power(self.base, self.place)
        self.wheels = with_more(self.wheels, way * worth, multiplied(many, self.setting))
        self.fact = None
        if not fits(self.wheels, self.wheels_end):
            return "over"
        return self.counted(many, tally)

    def rung(self, tally):
        """Turn back until the bell rings, and once on."""
        terms, low, high = self.setting
        if low == 0:
            return "zero"
        worth = power(self.base, self.place)
        greatest = self.wheels[2] // (low * worth)
        if self.fact is not None and self.fact[0] == terms and worth <= self.fact[1]:
            greatest = min(greatest, self.fact[1] // worth - 1)
        many = self.letter(greatest)
        self.leave(times(many[0], terms), worth)
        return self.counted(many, tally)

    def odds_turned(self, tally):
        """Turn back with one, three, five and so on until the bell rings, and once on."""
        if self.setting[0] != number_sum(1):
            return "odds"
        worth = power(self.base, self.place)
        greatest = root_of(self.wheels[2] // worth)
        if 2 * greatest + 1 >= self.setting_end:
            return "odds"
        many = self.letter(greatest)
        self.setting = plus(number_sum(1), 2, many[0]), 1, 2 * greatest + 1
        # As many odd numbers from 1 on come to the square of how many they are.
        self.leave(times(many[0], many[0]), worth)
        return self.counted(many, tally)

    def leave(self, taken, worth):
        """Take worth times a sum from the wheels, which leaves less there than is set."""
        terms, low, high = self.wheels
        self.wheels = plus(terms, -worth, taken), 0, min(high, self.setting[2] * worth - 1)
        self.fact = (self.setting[0], worth)

    def counted(self, many, tally):
        """Count turns, as many as an amount tells."""
        self.counts = with_more(self.counts, tally * power(self.base, self.place), many)
        return None if fits(self.counts, self.counts_end) else "counts"

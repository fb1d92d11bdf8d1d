"""What the program refuses, one class for each kind of refusal."""


class DrumError(ValueError):
    """Any refusal."""


class BadMachine(DrumError):
    """There is no such machine."""


class BadDeed(DrumError):
    """The deed can't be done."""


class BadBook(DrumError):
    """The handbook is broken: at tells which part, word of which sort the part is."""

    def __init__(self, at, word):
        DrumError.__init__(self, f"{word} {at} is not as handbooks are")
        self.at = at
        self.word = word


class BadValue(DrumError):
    """The values are not those that the handbook's inputs take."""


class Stuck(DrumError):
    """The handbook can't go on at the deed of this number."""

    def __init__(self, number):
        DrumError.__init__(self, f"stuck at deed {number}")
        self.number = number


class TooSmall(DrumError):
    """The machine is too small for what is asked of it."""

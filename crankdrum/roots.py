"""Square roots, rounded down."""


def root_of(number):
    """The greatest whole number whose square is no more than a number from 0 on."""
    low, beyond = 0, 1
    while beyond * beyond <= number:
        beyond *= 2
    while beyond - low > 1:
        middle = (low + beyond) // 2
        if middle * middle <= number:
            low = middle
        else:
            beyond = middle
    return low

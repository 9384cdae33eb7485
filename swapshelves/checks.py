"""Checks of numbers that several files need."""

from swapshelves.errors import InvalidCount

COUNT_LIMIT = 10 ** 18


def is_within(number, low, high):
    """Tell whether something is an integer from low to high."""
    if isinstance(number, bool) or not isinstance(number, int):
        return False
    return low <= number <= high


def check_count(count):
    """Raise InvalidCount if a number of ticks or of times is out of range."""
    if not is_within(count, -COUNT_LIMIT, COUNT_LIMIT):
        raise InvalidCount("not from -10 ** 18 to 10 ** 18")

"""Checks of numbers that several files need."""

from swapshelves.errors import InvalidCount

COUNT_LIMIT = 10 ** 18


def is_within(number, low, high):
    """Tell whether something is an integer from low to high."""
    if isinstance(number, bool) or not isinstance(number, int):
        return False
    return low <= number <= high


def check_count(count):
    """Raise InvalidCount if a number of ticks or of times is out of range."""
    check_between(count, -COUNT_LIMIT, COUNT_LIMIT)


def check_ticks(count):
    """Raise InvalidCount if a number of ticks from now on is out of range."""
    check_between(count, 0, COUNT_LIMIT)


def check_ordinal(number):
    """Raise InvalidCount if a number that counts from 1 on is out of range."""
    check_between(number, 1, COUNT_LIMIT)


def check_between(number, low, high):
    """Raise InvalidCount for what is not an integer from low to high."""
    if not is_within(number, low, high):
        raise InvalidCount("a number that is out of range")

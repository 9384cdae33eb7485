"""Numbers as bytes, and the checksum of bytes, all of them in lists of integers."""


def groups_of(number):
    """Return the bytes of a number: groups of seven bits, the low ones first."""
    found = []
    while number >= 128:
        found.append(128 + (number & 127))
        number >>= 7
    found.append(number)
    return found


def number_of_entry(entry):
    """Return the number that stands for an entry of a route."""
    return 0 if entry is None else entry + 1


def entry_of_number(number):
    """Return the entry for which a number stands."""
    return None if number == 0 else number - 1


def checksum_of(values):
    """Return the two bytes of the checksum of bytes, the high one first."""
    checksum = 7
    for value in values:
        checksum = int(37 * checksum + value) % 65521
    return [checksum >> 8, checksum & 255]


def sealed(values):
    """Return bytes with their checksum behind them."""
    return bytes(values + checksum_of(values))

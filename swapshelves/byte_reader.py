"""Reading bytes from left to right, and refusing them at the first fault."""

from swapshelves.byte_writer import checksum_of
from swapshelves.errors import InvalidData


class ByteReader:
    """Reads data, and raises InvalidData at the first byte that may not be there."""

    def __init__(self, data):
        self.data = data
        self.offset = 0

    def byte(self, low, high):
        """Return the next byte, which must be from low to high."""
        if self.offset == len(self.data):
            raise InvalidData(self.offset)
        value = self.data[self.offset]
        if not low <= value <= high:
            raise InvalidData(self.offset)
        self.offset += 1
        return value

    def number(self, low, high):
        """Return the next number, which is read whole before it must be from low to high."""
        start = self.offset
        value = self.any_number()
        if not low <= value <= high:
            raise InvalidData(start)
        return value

    def any_number(self):
        """Return the next number, however large it is."""
        groups = [self.byte(0, 255)]
        while groups[-1] >= 128:
            groups.append(self.byte(0, 255))
        if len(groups) > 1 and groups[-1] == 0:
            raise InvalidData(self.offset - 1)
        value = 0
        for group in reversed(groups):
            value = (value << 7) + (group & 127)
        return value

    def finish(self):
        """Read the checksum of all bytes so far, behind which the data must end."""
        for value in checksum_of(self.data[:self.offset]):
            self.byte(value, value)
        if self.offset != len(self.data):
            raise InvalidData(self.offset)

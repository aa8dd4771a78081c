"""The bytes handed in, taken one by one."""

from rangestream.faults import MoreWanted


class Feed:
    """One row of bytes at a time; only what is asked for is taken of it."""

    def __init__(self):
        self.row = []
        self.used = 0

    def hand_in(self, row):
        """Puts a new row in the place of the one before."""
        self.row = row
        self.used = 0

    def take(self):
        """Answers the next byte, or raises MoreWanted."""
        if self.used == len(self.row):
            raise MoreWanted()
        byte = self.row[self.used]
        self.used += 1
        return byte

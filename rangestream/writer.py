"""Bits made into bytes: each by its own chance, or even."""

from rangestream.bits import LEAST_SPAN
from rangestream.bits import WHOLE_SPAN

CODE_LIMIT = 4294967296


class Writer:
    """The range (here: span) of the bits put so far, and the lowest code that gives them.

    The last four bytes of that code are low; those ahead of them stand in
    row, behind what the stream begins with.
    """

    def __init__(self, row):
        self.span = WHOLE_SPAN
        self.low = 0
        self.row = row

    def fill(self):
        """Moves a byte on from low to row, wherever unpacking takes one."""
        if self.span < LEAST_SPAN:
            self.span = 256 * self.span
            self.row.append(self.low // LEAST_SPAN)
            self.low = 256 * (self.low % LEAST_SPAN)

    def raise_low(self, more):
        self.low += more
        if self.low >= CODE_LIMIT:
            self.low -= CODE_LIMIT
            self.carry()

    def carry(self):
        """Adds 1 to the code's bytes ahead of low."""
        # The walk ends within the code: low and span together never come to more than the first span.
        place = len(self.row) - 1
        while self.row[place] == 255:
            self.row[place] = 0
            place -= 1
        self.row[place] += 1

    def put_bit(self, chances, place, bit):
        """Puts a bit by the chance that stands at this place; the chance learns."""
        self.fill()
        chance = chances[place]
        bound = self.span // 2048 * chance
        if bit == 0:
            self.span = bound
            chances[place] = chance + (2048 - chance) // 32
        else:
            self.span -= bound
            self.raise_low(bound)
            chances[place] = chance - chance // 32

    def put_even(self, bit):
        """Puts a bit that goes by no chance."""
        self.fill()
        self.span = self.span // 2
        self.raise_low(self.span * bit)

    def put_tree(self, chances, start, size, value):
        """Puts a value of so many bits by a tree, its chances from start on."""
        node = 1
        for turn in range(size):
            bit = (value >> (size - 1 - turn)) % 2
            self.put_bit(chances, start + node, bit)
            node = 2 * node + bit

    def finish(self):
        """The whole stream: unpacked, it leaves a code of 0."""
        # Unpacking fills once more at the end, and may take a byte there.
        self.fill()
        high_half = self.low // 65536
        low_half = self.low % 65536
        return self.row + [high_half // 256, high_half % 256, low_half // 256, low_half % 256]

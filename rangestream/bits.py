"""Bits out of the bytes taken: each by its own chance, or even."""

from rangestream.faults import Damaged

WHOLE_SPAN = 4294967295
LEAST_SPAN = 16777216


class Bits:
    """The range (here: span) and the code of a stream, and the bits they give.

    A step whose bytes run out is gone through again when more come. Its bits
    so far are kept and given again, so that no bit is decided twice, no
    chance learns twice, and no byte need be kept.
    """

    def __init__(self, code, feed):
        self.span = WHOLE_SPAN
        self.code = code
        self.feed = feed
        self.kept = []
        self.given = 0

    def go_back(self):
        """Gives the bits of the step under way again, from its first."""
        self.given = 0

    def go_on(self):
        """Lets go of the bits of a step that is done."""
        self.kept = []
        self.given = 0

    def fill(self):
        """Takes a byte, if the span is too small for another bit."""
        if self.span < LEAST_SPAN:
            # Taken first: if there is none, nothing may be changed.
            byte = self.feed.take()
            self.span = 256 * self.span
            self.code = 256 * self.code + byte

    def by_chance(self, chances, place):
        """A bit by the chance that stands at this place; the chance learns."""
        if self.given < len(self.kept):
            return self.kept_bit()
        self.fill()
        chance = chances[place]
        bound = self.span // 2048 * chance
        if self.code < bound:
            self.span = bound
            chances[place] = chance + (2048 - chance) // 32
            return self.keep(0)
        self.span -= bound
        self.code -= bound
        chances[place] = chance - chance // 32
        return self.keep(1)

    def even(self):
        """A bit that goes by no chance."""
        if self.given < len(self.kept):
            return self.kept_bit()
        self.fill()
        self.span = self.span // 2
        if self.code < self.span:
            return self.keep(0)
        self.code -= self.span
        if self.code >= self.span:
            raise Damaged()
        return self.keep(1)

    def kept_bit(self):
        self.given += 1
        return self.kept[self.given - 1]

    def keep(self, bit):
        self.kept.append(bit)
        self.given += 1
        return bit

    def tree(self, chances, start, size):
        """The value of a tree of so many bits, its chances from start on."""
        node = 1
        for turn in range(size):
            node = 2 * node + self.by_chance(chances, start + node)
        return node - (1 << size)

    def tree_backwards(self, chances, start, size):
        """The same, but the first bit is the value's lowest."""
        node = 1
        value = 0
        for turn in range(size):
            bit = self.by_chance(chances, start + node)
            node = 2 * node + bit
            value += bit << turn
        return value

    def is_at_end(self):
        """Whether the code is 0 where the stream is to end."""
        self.fill()
        return self.code == 0

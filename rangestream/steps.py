"""The steps of a stream: literals, copies and the end."""

from rangestream.bits import Bits
from rangestream.chances import Chances
from rangestream.chances import LITERAL_TABLE
from rangestream.chances import MOST_PLACES
from rangestream.faults import Damaged
from rangestream.measures import read_distance
from rangestream.measures import read_length

END_DISTANCE = 4294967295


class Steps:
    """A stream behind its head, and all bytes that its steps came to.

    A step changes st, distances and out only when all its bits are known:
    until then it may be gone through again.
    """

    def __init__(self, head, feed):
        self.head = head
        self.bits = Bits(head.code, feed)
        self.chances = Chances(head.lc, head.lp)
        self.st = 0
        self.distances = [0, 0, 0, 0]
        self.out = []

    def go_step(self):
        """Goes one step, and tells whether it was the end."""
        self.bits.go_back()
        ended = self.try_step()
        self.bits.go_on()
        return ended

    def try_step(self):
        pos = len(self.out)
        if pos == self.head.size:
            return self.check_end()
        ps = pos % (1 << self.head.pb)
        if self.bits.by_chance(self.chances.matches, MOST_PLACES * self.st + ps) == 0:
            self.put_literal()
            return False
        if self.bits.by_chance(self.chances.again, self.st) == 0:
            return self.copy_new(ps)
        self.copy_again(ps)
        return False

    def check_end(self):
        if not self.bits.is_at_end():
            raise Damaged()
        return True

    def put_literal(self):
        node = 1
        table = self.literal_table()
        if self.st >= 7:
            node = self.match_literal(table)
        while node < 256:
            node = 2 * node + self.bits.by_chance(self.chances.literals, table + node)
        self.out.append(node % 256)
        if self.st < 4:
            self.st = 0
        elif self.st < 10:
            self.st -= 3
        else:
            self.st -= 6

    def literal_table(self):
        """Where the chances begin that a literal goes by."""
        pos = len(self.out)
        last = self.out[pos - 1] if pos > 0 else 0
        last_part = last >> (8 - self.head.lc)
        return LITERAL_TABLE * (((pos % (1 << self.head.lp)) << self.head.lc) + last_part)

    def match_literal(self, table):
        """A literal's node behind its first bit that isn't the old byte's."""
        old = self.out[len(self.out) - 1 - self.distances[0]]
        node = 1
        while node < 256:
            old_bit = old >> 7
            old = 2 * old % 256
            bit = self.bits.by_chance(self.chances.literals, table + 256 * (1 + old_bit) + node)
            node = 2 * node + bit
            if bit != old_bit:
                return node
        return node

    def copy_new(self, ps):
        """Goes a copy from a new distance, and tells whether it was the end."""
        length = read_length(self.bits, self.chances.new_length, ps)
        distance = read_distance(self.bits, self.chances, length)
        if distance == END_DISTANCE:
            if self.head.size is not None:
                raise Damaged()
            return self.check_end()
        self.put_copy(length, [distance] + self.distances[:3], 7 if self.st < 7 else 10)
        return False

    def copy_again(self, ps):
        """Goes a copy from a distance had before."""
        if len(self.out) == 0:
            raise Damaged()
        which = self.which_distance()
        if which == 0 and self.bits.by_chance(self.chances.one, MOST_PLACES * self.st + ps) == 0:
            self.put_copy(1, self.distances, 9 if self.st < 7 else 11)
            return
        length = read_length(self.bits, self.chances.again_length, ps)
        others = self.distances[:which] + self.distances[which + 1:]
        self.put_copy(length, [self.distances[which]] + others, 8 if self.st < 7 else 11)

    def which_distance(self):
        if self.bits.by_chance(self.chances.first, self.st) == 0:
            return 0
        if self.bits.by_chance(self.chances.second, self.st) == 0:
            return 1
        return 2 + self.bits.by_chance(self.chances.third, self.st)

    def put_copy(self, length, distances, st):
        """Puts out a copy from the first of these distances, if it may be."""
        pos = len(self.out)
        if distances[0] >= pos or distances[0] >= self.head.reach:
            raise Damaged()
        if self.head.size is not None and pos + length > self.head.size:
            raise Damaged()
        self.distances = distances
        self.st = st
        start = pos - 1 - distances[0]
        for turn in range(length):
            self.out.append(self.out[start + turn])

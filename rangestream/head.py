"""The head of a stream."""

from rangestream.faults import Damaged

HEAD_BYTES = 18
MOST_REACH = 65536
ALL_ONES_SIZE = 18446744073709551615
SIZE_LIMIT = 9223372036854775808
ALL_ONES_CODE = 4294967295


class Head:
    """What the bytes of a head say; the size is None if it isn't told."""

    def __init__(self, row):
        self.lc = row[0] % 9
        self.lp = row[0] // 9 % 5
        self.pb = row[0] // 45
        self.reach = lowest_first(row[1:5])
        self.size = lowest_first(row[5:13])
        if self.size == ALL_ONES_SIZE:
            self.size = None
        self.code = highest_first(row[14:18])


def highest_first(row):
    """The number whose bytes these are, the highest first."""
    value = 0
    for byte in row:
        value = 256 * value + byte
    return value


def lowest_first(row):
    """The number whose bytes these are, the lowest first."""
    return highest_first(list(reversed(row)))


def read_head(row):
    """The head that these 18 bytes make, or Damaged is raised."""
    head = Head(row)
    if row[0] >= 225 or head.lc + head.lp > 4:
        raise Damaged()
    if head.reach == 0 or head.reach > MOST_REACH:
        raise Damaged()
    if head.size is not None and head.size >= SIZE_LIMIT:
        raise Damaged()
    if row[13] != 0 or head.code == ALL_ONES_CODE:
        raise Damaged()
    return head

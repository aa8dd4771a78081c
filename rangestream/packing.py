"""Bytes packed into a stream."""

from rangestream.chances import Chances
from rangestream.chances import LITERAL_TABLE
from rangestream.chances import SHORT_TREE
from rangestream.writer import Writer

MOST_PACKED = 1024

# d 93 (lc 3, lp 0, pb 2), reach 65,536, the size not told, and the 0 ahead of the code.
BEGINNING = (93, 0, 0, 1, 0, 255, 255, 255, 255, 255, 255, 255, 255, 0)
LC = 3
LP = 0
PLACES = 4
LAST_SLOT = 63
EVEN_BITS = 26
LAST_ALIGN = 15


def pack(row):
    """Answers how many bytes packed row has, and they."""
    if len(row) > MOST_PACKED:
        return [-3]
    stream = packed(row)
    return [len(stream)] + stream


def packed(row):
    """The stream whose steps are a literal for each byte of row, and the end."""
    writer = Writer(list(BEGINNING))
    chances = Chances(LC, LP)
    last = 0
    for pos in range(len(row)):
        put_literal(writer, chances, pos, last, row[pos])
        last = row[pos]
    put_end(writer, chances, len(row))
    return writer.finish()


def put_literal(writer, chances, pos, last, byte):
    # Behind literals alone st is 0, so the places of its chances are the first ones.
    writer.put_bit(chances.matches, pos % PLACES, 0)
    writer.put_tree(chances.literals, LITERAL_TABLE * (last >> (8 - LC)), 8, byte)


def put_end(writer, chances, pos):
    """Puts a copy of length 2 whose distance has all bits set."""
    ps = pos % PLACES
    writer.put_bit(chances.matches, ps, 1)
    writer.put_bit(chances.again, 0, 0)
    writer.put_bit(chances.new_length.choice, 0, 0)
    writer.put_tree(chances.new_length.low_trees, SHORT_TREE * ps, 3, 0)
    writer.put_tree(chances.slots, 0, 6, LAST_SLOT)
    for turn in range(EVEN_BITS):
        writer.put_even(1)
    # These bits stand backwards, but all of them are 1.
    writer.put_tree(chances.align, 0, 4, LAST_ALIGN)

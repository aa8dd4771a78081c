"""How long a copy is, and from how far back."""

from rangestream.chances import SHORT_TREE
from rangestream.chances import SLOT_TREE


def read_length(bits, chances, ps):
    """A length, by one set of chances for lengths."""
    if bits.by_chance(chances.choice, 0) == 0:
        return 2 + bits.tree(chances.low_trees, SHORT_TREE * ps, 3)
    if bits.by_chance(chances.choice, 1) == 0:
        return 10 + bits.tree(chances.mid_trees, SHORT_TREE * ps, 3)
    return 18 + bits.tree(chances.high_tree, 0, 8)


def read_distance(bits, chances, length):
    """The distance of a copy that is so long."""
    slot = bits.tree(chances.slots, SLOT_TREE * min(length - 2, 3), 6)
    if slot < 4:
        return slot
    count = slot // 2 - 1
    base = (2 + slot % 2) << count
    if slot < 14:
        return base + bits.tree_backwards(chances.near, base - slot, count)
    high = 0
    for turn in range(count - 4):
        high = 2 * high + bits.even()
    return base + 16 * high + bits.tree_backwards(chances.align, 0, 4)

"""The chances that the bits of a stream go by."""

FIRST_CHANCE = 1024
STATES = 12
MOST_PLACES = 16
LITERAL_TABLE = 768
SLOT_TREE = 64
SHORT_TREE = 8
LONG_TREE = 256
NEAR_CHANCES = 115
ALIGN_TREE = 16


def new_chances(count):
    """So many chances that have learned nothing."""
    return [FIRST_CHANCE] * count


class LengthChances:
    """One set of chances for lengths."""

    def __init__(self):
        self.choice = new_chances(2)
        self.low_trees = new_chances(MOST_PLACES * SHORT_TREE)
        self.mid_trees = new_chances(MOST_PLACES * SHORT_TREE)
        self.high_tree = new_chances(LONG_TREE)


class Chances:
    """All chances of one stream."""

    def __init__(self, lc, lp):
        self.matches = new_chances(STATES * MOST_PLACES)
        self.again = new_chances(STATES)
        self.first = new_chances(STATES)
        self.one = new_chances(STATES * MOST_PLACES)
        self.second = new_chances(STATES)
        self.third = new_chances(STATES)
        self.literals = new_chances(LITERAL_TABLE << (lc + lp))
        self.slots = new_chances(4 * SLOT_TREE)
        self.near = new_chances(NEAR_CHANCES)
        self.align = new_chances(ALIGN_TREE)
        self.new_length = LengthChances()
        self.again_length = LengthChances()

"""One stream, unpacked as its bytes come."""

from rangestream.faults import Damaged
from rangestream.faults import MoreWanted
from rangestream.feed import Feed
from rangestream.head import HEAD_BYTES
from rangestream.head import read_head
from rangestream.steps import Steps

MOST_ROOM = 8192
LAST_PROP = 3

IN_HEAD = 0
IN_STEPS = 1
AT_END = 2
AT_DAMAGE = 3


class Unpacker:
    """A stream of which nothing is taken at first.

    steps is None until all bytes of the head are taken, and stays None if
    the head is damaged.
    """

    def __init__(self):
        self.feed = Feed()
        self.head_row = []
        self.steps = None
        self.stage = IN_HEAD
        self.put_count = 0
        self.taken_count = 0

    def get(self, cap, row):
        """Answers how many bytes are put out, how many taken of row, and those put out."""
        if cap > MOST_ROOM:
            return [-3]
        if self.stage == AT_DAMAGE:
            return [-2]
        if self.stage == AT_END:
            return [0, 0]
        self.feed.hand_in(row)
        self.go_far(cap)
        self.taken_count += self.feed.used
        piece = self.waiting(cap)
        self.put_count += len(piece)
        return [len(piece), self.feed.used] + piece

    def state(self):
        """Answers how far the stream is, how many bytes were put out and how many taken."""
        return [self.stage, self.put_count, self.taken_count]

    def told(self):
        """Answers 1 and the size, or 0 if it isn't told."""
        if self.steps is None:
            return [-5]
        if self.steps.head.size is None:
            return [0]
        return [1, self.steps.head.size]

    def prop(self, which):
        """Answers 0 and, by which, lc, lp, pb or reach."""
        if which > LAST_PROP:
            return [-3]
        if self.steps is None:
            return [-5]
        head = self.steps.head
        props = [head.lc, head.lp, head.pb, head.reach]
        return [0, props[which]]

    def go_far(self, cap):
        """Goes on until cap bytes wait, the stream has ended, or the row has."""
        try:
            while self.stage < AT_END and self.waiting_count() < cap:
                self.go_once()
        except MoreWanted:
            return
        except Damaged:
            self.stage = AT_DAMAGE

    def go_once(self):
        if self.stage == IN_HEAD:
            self.take_head()
        elif self.steps.go_step():
            self.stage = AT_END

    def take_head(self):
        while len(self.head_row) < HEAD_BYTES:
            self.head_row.append(self.feed.take())
        self.steps = Steps(read_head(self.head_row), self.feed)
        self.stage = IN_STEPS

    def waiting_count(self):
        """How many bytes are come to and not put out yet."""
        if self.steps is None:
            return 0
        return len(self.steps.out) - self.put_count

    def waiting(self, cap):
        """The first of the bytes that wait, at most cap of them."""
        if self.steps is None:
            return []
        return self.steps.out[self.put_count:self.put_count + cap]

"""What the tests share: calls as lists, a packer of chosen steps, and the document's words as a slow model."""

from rangestream.streams import answers

TOP = 2 ** 24
NO_DISTANCE = 2 ** 32 - 1
NOT_TOLD = 2 ** 64 - 1

BEGIN = [0]
STATE = [2]
TOLD = [3]

# What stands in the document's run for packed of no bytes.
PACKED_NOTHING = [93, 0, 0, 1, 0, 255, 255, 255, 255, 255, 255, 255, 255, 0, 131, 255, 251, 255, 255, 192, 0, 0, 0]


def get(cap, row):
    return [1, cap, len(row)] + list(row)


def prop(which):
    return [4, which]


def pack(row):
    return [5, len(row)] + list(row)


# All that the head tells.
HEAD_CALLS = [TOLD, prop(0), prop(1), prop(2), prop(3)]
NO_HEAD = [[-5]] * 5


def head_answers(size, lc, lp, pb, reach):
    """What the calls of HEAD_CALLS answer; the size is None if it isn't told."""
    return [[0] if size is None else [1, size], [0, lc], [0, lp], [0, pb], [0, reach]]


def ask(*calls):
    """The answers to these calls, a list each."""
    line = [number for call in calls for number in call]
    assert len(calls) <= 60 and len(line) <= 30000
    given = answers(line)
    split = []
    place = 0
    while place < len(given):
        split.append(given[place + 1:place + 1 + given[place]])
        place += 1 + given[place]
    assert place == len(given) and len(split) == len(calls)
    return split


def head_bytes(d=93, reach=65536, size=NOT_TOLD, zero=0, code=0):
    head = [d] + list(reach.to_bytes(4, "little")) + list(size.to_bytes(8, "little"))
    return head + [zero] + list(code.to_bytes(4, "big"))


# Each way in which a head is damaged.
DAMAGED_HEADS = {
    "d 225": head_bytes(d=225),
    "d 255": head_bytes(d=255),
    "d 225, though lc + lp would be 0": head_bytes(d=225, size=7),
    "lc 5": head_bytes(d=5),
    "lc 8": head_bytes(d=8),
    "lc 4, lp 1": head_bytes(d=9 + 4),
    "lc 1, lp 4": head_bytes(d=4 * 9 + 1),
    "lc 3, lp 2, pb 4": head_bytes(d=4 * 45 + 2 * 9 + 3),
    "d 224": head_bytes(d=224),
    "reach 0": head_bytes(reach=0),
    "reach 65537": head_bytes(reach=65537),
    "reach 2 to the 24th": head_bytes(reach=2 ** 24),
    "reach 2 to the 32nd less 1": head_bytes(reach=2 ** 32 - 1),
    "size 2 to the 63rd": head_bytes(size=2 ** 63),
    "size one below all ones": head_bytes(size=NOT_TOLD - 1),
    "size without its lowest bits": head_bytes(size=NOT_TOLD - 255),
    "byte 13 is 1": head_bytes(zero=1),
    "byte 13 is 255": head_bytes(zero=255),
    "code all ones": head_bytes(code=2 ** 32 - 1),
}


def unpack_whole(stream, room=8192, piece=400):
    """All that comes out of a stream, and the state then."""
    out = []
    at = 0
    rounds = []
    while True:
        rounds.append(get(room, stream[at:at + piece]))
        answered = ask(*rounds, STATE)
        last = answered[-2]
        out += last[2:]
        at += last[1]
        if answered[-1][0] >= 2 or last[:2] == [0, 0]:
            return out, answered[-1]


class Packer:
    """Packs the steps that it is told, sound or not, and marks how many bytes each of them needs."""

    def __init__(self, lc=3, lp=0, pb=2, reach=65536, size=None):
        self.lc, self.lp, self.pb, self.reach, self.size = lc, lp, pb, reach, size
        self.low, self.span, self.fills = 0, 2 ** 32 - 1, 0
        self.chances = {}
        self.st, self.r, self.out = 0, [0, 0, 0, 0], []
        self.marks = []

    # The coder.

    def fill(self):
        if self.span < TOP:
            self.span *= 256
            self.low *= 256
            self.fills += 1

    def bit(self, key, bit):
        self.fill()
        p = self.chances.get(key, 1024)
        bound = self.span // 2048 * p
        if bit == 0:
            self.span = bound
            self.chances[key] = p + (2048 - p) // 32
        else:
            self.low += bound
            self.span -= bound
            self.chances[key] = p - p // 32

    def even(self, bit):
        self.fill()
        self.span //= 2
        self.low += bit * self.span

    def tree(self, name, size, value):
        m = 1
        for k in reversed(range(size)):
            bit = value >> k & 1
            self.bit(name + (m,), bit)
            m = 2 * m + bit

    def backwards(self, name, size, value, start=0):
        m = 1
        for k in range(size):
            bit = value >> k & 1
            self.bit(name + (start + m,), bit)
            m = 2 * m + bit

    # The steps.

    def ps(self):
        return len(self.out) % 2 ** self.pb

    def literal(self, byte):
        pos = len(self.out)
        last = self.out[-1] if self.out else 0
        table = pos % 2 ** self.lp * 2 ** self.lc + last // 2 ** (8 - self.lc)
        self.bit(("match", self.st, self.ps()), 0)
        same = self.st >= 7
        old = self.old_byte()
        m = 1
        for k in reversed(range(8)):
            bit, old_bit = byte >> k & 1, old >> k & 1
            self.bit(("literal", table, 256 * (1 + old_bit) + m if same else m), bit)
            same = same and bit == old_bit
            m = 2 * m + bit
        self.st = 0 if self.st < 4 else self.st - 3 if self.st < 10 else self.st - 6
        self.out.append(byte)
        return self.done()

    def literals(self, row):
        for byte in row:
            self.literal(byte)
        return self

    def copy(self, length, distance):
        self.bit(("match", self.st, self.ps()), 1)
        self.bit(("again", self.st), 0)
        self.length("new", length)
        self.distance(length, distance)
        if distance != NO_DISTANCE:
            self.r = [distance] + self.r[:3]
            self.st = 7 if self.st < 7 else 10
            self.put(length)
        return self.done()

    def again(self, which, length):
        self.begin_again(which)
        if which == 0:
            self.bit(("one", self.st, self.ps()), 1)
        self.length("again", length)
        self.r.insert(0, self.r.pop(which))
        self.st = 8 if self.st < 7 else 11
        self.put(length)
        return self.done()

    def one(self):
        self.begin_again(0)
        self.bit(("one", self.st, self.ps()), 0)
        self.st = 9 if self.st < 7 else 11
        self.put(1)
        return self.done()

    def begin_again(self, which):
        self.bit(("match", self.st, self.ps()), 1)
        self.bit(("again", self.st), 1)
        for name, bit in (("first", 0), ("second", 1), ("third", 2)):
            if which >= bit:
                self.bit((name, self.st), 1 if which > bit else 0)

    def length(self, name, length):
        self.bit((name, "choice", 0), 0 if length < 10 else 1)
        if length < 10:
            return self.tree((name, "low", self.ps()), 3, length - 2)
        self.bit((name, "choice", 1), 0 if length < 18 else 1)
        if length < 18:
            return self.tree((name, "mid", self.ps()), 3, length - 10)
        return self.tree((name, "high"), 8, length - 18)

    def distance(self, length, distance):
        slot = slot_of(distance)
        self.tree(("slot", min(length - 2, 3)), 6, slot)
        n = slot // 2 - 1
        base = (2 + slot % 2) << n if slot >= 4 else slot
        if 4 <= slot < 14:
            self.backwards(("near",), n, distance - base, base - slot)
        elif slot >= 14:
            for k in reversed(range(4, n)):
                self.even((distance - base) >> k & 1)
            self.backwards(("align",), 4, (distance - base) % 16)

    def old_byte(self):
        # A copy that reaches before the beginning is packed all the same: it is damage.
        return self.out[-1 - self.r[0]] if self.r[0] < len(self.out) else 0

    def put(self, length):
        for turn in range(length):
            self.out.append(self.old_byte())

    def end(self):
        """The end, where the size is not told; marked when it's finished."""
        self.copy(2, NO_DISTANCE)
        self.marks.pop()
        return self

    def done(self):
        self.marks.append((18 + self.fills, len(self.out), "more"))
        return self

    def spoiled(self):
        """The stream so far, whose last step is damage."""
        out_before = self.marks[-2][1] if len(self.marks) > 1 else 0
        self.marks[-1] = (self.marks[-1][0], out_before, "damage")
        return self.bytes()

    def bytes(self, more=0):
        """The stream so far: its steps are known by just these bytes, and the code is more then."""
        assert more < self.span
        d = (self.pb * 5 + self.lp) * 9 + self.lc
        size = NOT_TOLD if self.size is None else self.size
        rest = (self.low + more).to_bytes(4 + self.fills, "big")
        return head_bytes(d, self.reach, size)[:14] + list(rest)

    def finished(self, more=0):
        """The stream so far, filled once more as the end asks it; a code that is more than 0 is damage."""
        self.fill()
        self.marks.append((18 + self.fills, len(self.out), "damage" if more else "end"))
        return self.bytes(more)


def slot_of(distance):
    if distance < 4:
        return distance
    n = distance.bit_length() - 2
    return 2 * (n + 1) + (distance >> n & 1)


def packed(row):
    """Packed of these bytes, as the document tells it."""
    return Packer().literals(row).end().finished()


def pack_answer(row):
    """What pack of these bytes answers, if they're not too many."""
    made = packed(row)
    return [len(made)] + made


def mixed(packer):
    """Steps of all kinds; what they come to is in packer.out."""
    packer.literals(b"abcdefghijklmnopqrstuvwxyz")
    packer.copy(5, 3).literals(b"Xe").copy(40, 9).one().literal(7).copy(12, 25).copy(3, 0)
    packer.again(0, 2).again(1, 11).again(2, 30).again(3, 4).one().one().literals([0, 255, 128])
    packer.copy(273, 70).copy(2, 130).literal(3).again(3, 273).copy(4, 400).literals(b"the end")
    return packer


class Wanting(Exception):
    """The slow model has no byte left."""


class Broken(Exception):
    """The slow model found damage."""


class Model:
    """What bytes come to, step by step, after the document's words; and what a sound head tells, else None."""

    def __init__(self, row):
        self.row, self.at, self.head = row, 0, None
        self.out, self.verdict, self.marks = [], "more", []
        try:
            self.read_head()
            while self.verdict == "more":
                self.step()
                self.marks.append((self.at, len(self.out), self.verdict))
        except Wanting:
            pass
        except Broken:
            self.marks.append((self.at, len(self.out), "damage"))

    def take(self):
        if self.at == len(self.row):
            raise Wanting()
        self.at += 1
        return self.row[self.at - 1]

    def read_head(self):
        head = [self.take() for turn in range(18)]
        d = head[0]
        self.lc, self.lp, self.pb = d % 9, d // 9 % 5, d // 45
        self.reach = int.from_bytes(bytes(head[1:5]), "little")
        self.size = int.from_bytes(bytes(head[5:13]), "little")
        self.code, self.span = int.from_bytes(bytes(head[14:]), "big"), 2 ** 32 - 1
        if d >= 225 or self.lc + self.lp > 4 or not 1 <= self.reach <= 65536 or head[13] != 0:
            raise Broken()
        if 2 ** 63 <= self.size < NOT_TOLD or self.code == 2 ** 32 - 1:
            raise Broken()
        size = None if self.size == NOT_TOLD else self.size
        self.head = (size, self.lc, self.lp, self.pb, self.reach)
        self.p, self.st, self.r = {}, 0, [0, 0, 0, 0]

    def fill(self):
        if self.span < TOP:
            self.code = self.code * 256 + self.take()
            self.span *= 256

    def bit(self, *key):
        self.fill()
        p = self.p.setdefault(key, 1024)
        bound = self.span // 2048 * p
        if self.code < bound:
            self.span = bound
            self.p[key] += (2048 - p) // 32
            return 0
        self.span -= bound
        self.code -= bound
        self.p[key] -= p // 32
        return 1

    def even(self):
        self.fill()
        self.span //= 2
        if self.code < self.span:
            return 0
        self.code -= self.span
        if self.code >= self.span:
            raise Broken()
        return 1

    def tree(self, n, *key):
        m = 1
        while m < 2 ** n:
            m = 2 * m + self.bit(*key, m)
        return m - 2 ** n

    def backwards(self, n, start, *key):
        m, value = 1, 0
        for k in range(n):
            bit = self.bit(*key, start + m)
            m, value = 2 * m + bit, value + 2 ** k * bit
        return value

    def end(self):
        self.fill()
        if self.code != 0:
            raise Broken()
        self.verdict = "end"

    def step(self):
        pos, st = len(self.out), self.st
        ps = pos % 2 ** self.pb
        if self.size == pos:
            self.end()
        elif not self.bit("match", st, ps):
            self.literal(pos, st)
        elif not self.bit("again", st):
            length = self.length("new", ps)
            distance = self.distance(length)
            if distance == NO_DISTANCE and self.size != NOT_TOLD:
                raise Broken()
            if distance == NO_DISTANCE:
                return self.end()
            self.r = [distance] + self.r[:3]
            self.st = 7 if st < 7 else 10
            self.copy(length)
        elif pos == 0:
            raise Broken()
        else:
            self.again(st, ps)

    def literal(self, pos, st):
        last = self.out[-1] if pos else 0
        table = pos % 2 ** self.lp * 2 ** self.lc + last // 2 ** (8 - self.lc)
        m = 1
        if st >= 7:
            c = 256 + self.out[-1 - self.r[0]]
            for k in reversed(range(8)):
                if m != c >> k + 1:
                    break
                m = 2 * m + self.bit("literal", table, 256 * (1 + (c >> k) % 2) + m)
        while m < 256:
            m = 2 * m + self.bit("literal", table, m)
        self.out.append(m % 256)
        self.st = 0 if st < 4 else st - 3 if st < 10 else st - 6

    def again(self, st, ps):
        self.st = 8 if st < 7 else 11
        if not self.bit("first", st):
            if not self.bit("one", st, ps):
                self.st = 9 if st < 7 else 11
                return self.copy(1)
        elif not self.bit("second", st):
            self.r = [self.r[1], self.r[0], self.r[2], self.r[3]]
        elif not self.bit("third", st):
            self.r = [self.r[2], self.r[0], self.r[1], self.r[3]]
        else:
            self.r = [self.r[3], self.r[0], self.r[1], self.r[2]]
        return self.copy(self.length("again", ps))

    def length(self, name, ps):
        if not self.bit(name, "choice", 0):
            return 2 + self.tree(3, name, "low", ps)
        if not self.bit(name, "choice", 1):
            return 10 + self.tree(3, name, "mid", ps)
        return 18 + self.tree(8, name, "high")

    def distance(self, length):
        s = self.tree(6, "slot", min(length - 2, 3))
        if s < 4:
            return s
        n = s // 2 - 1
        base = (2 + s % 2) * 2 ** n
        if s < 14:
            return base + self.backwards(n, base - s, "near")
        high = 0
        for turn in range(n - 4):
            high = 2 * high + self.even()
        return base + 16 * high + self.backwards(4, 0, "align")

    def copy(self, length):
        pos, back = len(self.out), self.r[0]
        if back >= pos or back >= self.reach or (self.size != NOT_TOLD and pos + length > self.size):
            raise Broken()
        for turn in range(length):
            self.out.append(self.out[-1 - back])


class Forecast:
    """What get, state, told and prop answer, told from how many bytes each step of a stream needs.

    A mark says of a step: how many bytes it needs, how many are out behind it, and "more", "end" or "damage".
    """

    def __init__(self, marks, out, head=None):
        self.marks, self.out, self.head = list(marks), out, head
        self.come_to = self.put = self.taken = 0
        self.verdict = "more"

    def get(self, cap, row):
        if cap > 8192:
            return [-3]
        if self.verdict == "damage":
            return [-2]
        before = self.taken
        while self.verdict == "more" and self.come_to - self.put < cap:
            if not self.marks or self.marks[0][0] > before + len(row):
                self.taken = before + len(row)
                break
            self.taken, self.come_to, self.verdict = self.marks.pop(0)
        piece = list(self.out[self.put:min(self.come_to, self.put + cap)])
        self.put += len(piece)
        return [len(piece), self.taken - before] + piece

    def state(self):
        kind = {"damage": 3, "end": 2, "more": 0 if self.taken < 18 else 1}[self.verdict]
        return [kind, self.put, self.taken]

    def of_head(self, place):
        """What the call answers that stands at this place of HEAD_CALLS."""
        if self.taken < 18 or self.head is None:
            return [-5]
        return head_answers(*self.head)[place]


def check_pieces(test, stream, forecast, pieces, rooms):
    """Hands a stream over in these pieces and rooms, 59 of them at most; what's not taken is handed over again."""
    calls, wanted = [], []
    at = 0
    for piece, room in list(zip(pieces, rooms))[:59]:
        row = stream[at:at + piece]
        answer = forecast.get(room, row)
        calls.append(get(room, row))
        wanted.append(answer)
        at = forecast.taken
    test.assertEqual(ask(*calls, STATE), wanted + [forecast.state()])

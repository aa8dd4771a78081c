"""Each kind of step: literals, copies, copies from distances had before, and the end."""

import unittest

from tests.helper import STATE, TOP, Packer, ask, get, packed, slot_of, unpack_whole


class StepsTest(unittest.TestCase):
    def check(self, packer, wanted=None):
        """The stream of these steps comes to what is wanted, and ends with its last byte."""
        stream = (packer.end() if packer.size is None else packer).finished()
        out, state = unpack_whole(stream)
        if wanted is not None:
            self.assertEqual(bytes(out), wanted)
        self.assertEqual(out, packer.out)
        self.assertEqual(state, [2, len(packer.out), len(stream)])


class Literals(StepsTest):
    def test_each_byte(self):
        self.check(Packer().literals(range(256)), bytes(range(256)))

    def test_none_at_all(self):
        self.check(Packer(), b"")

    def test_packed_of_many_bytes(self):
        for row in (b"", b"a", b"\0", b"\xff" * 50, b"\0" * 1000, bytes(range(256)) * 4):
            stream = packed(row)
            with self.subTest(row[:4]):
                self.assertEqual(unpack_whole(stream), (list(row), [2, len(row), len(stream)]))

    def test_after_a_copy_each_bit_may_be_the_first_to_differ(self):
        for old in (0, 255, 0b10110010):
            for differs in range(8):
                wanted = bytes([old, old, old, old ^ 1 << differs, old])
                with self.subTest((old, differs)):
                    packer = Packer().literal(old).copy(2, 0).literal(old ^ 1 << differs).literal(old)
                    self.check(packer, wanted)

    def test_after_a_copy_the_old_byte_itself(self):
        self.check(Packer().literal(9).copy(3, 0).literal(9), b"\x09" * 5)

    def test_after_a_copy_the_old_byte_stands_r0_back(self):
        self.check(Packer().literals(b"abcdefgh").copy(2, 5).literal(ord("e")).literal(ord("z")), b"abcdefghcdez")

    def test_after_each_kind_of_copy_and_again(self):
        # st goes through 7 to 11, and from there down to 0 by literals.
        for start in ("copy", "again", "one", "copy copy", "copy again", "copy one", "one one"):
            packer = Packer().literals(b"some bytes to copy from")
            for word in start.split():
                {"copy": lambda: packer.copy(3, 7), "again": lambda: packer.again(0, 4), "one": packer.one}[word]()
            with self.subTest(start):
                self.check(packer.literals(b"then literals").copy(2, 1).literals(b"ab"))

    def test_first_literal_goes_by_last_byte_0(self):
        for lc in range(5):
            self.check(Packer(lc=lc).literals([0, 0, 255, 0]), b"\0\0\xff\0")


class Copies(StepsTest):
    def test_each_length(self):
        for length in range(2, 274):
            self.check(Packer().literals(b"abc").copy(length, 2).literal(1), (b"abc" * 92)[:3 + length] + b"\1")

    def test_each_length_again(self):
        for length in range(2, 274):
            self.check(Packer().literals(b"abc").copy(2, 2).again(0, length), (b"abc" * 93)[:5 + length])

    def test_many_lengths_in_one_stream(self):
        packer = Packer(pb=4).literals(b"abcdefg")
        for length in list(range(2, 60)) + [100, 272, 273]:
            packer.copy(length, length % 7).again(0, length)
        self.check(packer)

    def test_one_that_reaches_into_itself(self):
        self.check(Packer().literals(b"ab").copy(7, 1), b"ababababa")
        self.check(Packer().literal(5).copy(273, 0), b"\5" * 274)
        self.check(Packer().literals(b"xyz").copy(6, 2).copy(5, 3), b"xyzxyzxyzzxyzz")

    def test_one_that_does_not(self):
        self.check(Packer().literals(b"abcdef").copy(3, 4).copy(2, 8), b"abcdefbcdab")

    def test_each_slot_of_the_distance(self):
        row = [(k * k // 5 + 3 * k) % 256 for k in range(700)]
        packer = Packer().literals(row)
        while len(packer.out) < 66000:
            pos = len(packer.out)
            packer.copy(200 + pos % 74, pos * 7 // 11 % min(pos, 65536)).literal(pos % 251).literal(pos // 256 % 256)
        seen = {}
        for distance in [1, 2, 3] + [(1 << k) + more for k in range(2, 16) for more in (0, 1, (1 << k) // 2 - 1)] + \
                [(3 << k) + more for k in range(1, 15) for more in (0, 1, (1 << k) - 1)] + [0, 65535, 40000]:
            packer.copy(2 + distance % 5, distance)
            seen[slot_of(distance)] = True
        self.assertEqual(sorted(seen), list(range(32)))
        self.check(packer)

    def test_each_tree_of_slots(self):
        packer = Packer().literals(bytes(range(100, 200)))
        for turn in range(4):
            for length in (2, 3, 4, 5, 6, 20):
                packer.copy(length, 20 * turn + length)
        self.check(packer)

    def test_from_as_far_back_as_there_is(self):
        self.check(Packer().literals(b"abc").copy(2, 2), b"abcab")
        self.check(Packer(reach=3).literals(b"abcdef").copy(4, 2), b"abcdefdefd")
        self.check(Packer(reach=1).literals(b"ab").copy(2, 0), b"abbb")


class HadBefore(StepsTest):
    def start(self):
        """r0 to r3 are 1, 3, 6, 10, and the bytes so far all differ in their surroundings."""
        packer = Packer().literals(b"abcdefghijklmnopqrstuvw")
        return packer.copy(2, 10).literal(1).copy(2, 6).literal(2).copy(2, 3).literal(3).copy(2, 1).literals(b"!?")

    def test_each_of_the_four(self):
        so_far = bytes(self.start().out)
        for which, distance in enumerate((1, 3, 6, 10)):
            with self.subTest(which):
                back = so_far[len(so_far) - 1 - distance:]
                self.check(self.start().again(which, 2), so_far + (back * 2)[:2])

    def test_how_the_others_move_on(self):
        orders = {0: (1, 3, 6, 10), 1: (3, 1, 6, 10), 2: (6, 1, 3, 10), 3: (10, 1, 3, 6)}
        for which, order in orders.items():
            moved = self.start().again(which, 2).literals(b"+-*/")
            self.assertEqual(moved.r, list(order))
            for then, distance in enumerate(order):
                with self.subTest((which, then)):
                    packer = self.start().again(which, 2).literals(b"+-*/").again(then, 2)
                    so_far = bytes(moved.out)
                    self.check(packer, so_far + (so_far[len(so_far) - 1 - distance:] * 2)[:2])

    def test_a_copy_moves_all_on(self):
        packer = self.start().copy(3, 15).literals(b"12345").again(3, 3).again(2, 3).again(3, 3)
        self.check(packer)

    def test_one_byte_from_r0(self):
        self.check(Packer().literals(b"abcd").copy(2, 2).literals(b"x").one().literals(b"y").one(), b"abcdbcxbyx")

    def test_one_byte_leaves_the_distances(self):
        packer = self.start().one().literal(9).one().one().again(1, 2).literal(8).again(0, 3).again(3, 2)
        self.check(packer)

    def test_from_r0_before_any_copy(self):
        self.check(Packer().literal(7).one().again(0, 3), b"\7" * 5)
        for which in (1, 2, 3):
            self.check(Packer().literals(b"ab").again(which, 2), b"abbb")

    def test_again_has_its_own_lengths(self):
        packer = Packer().literals(b"abcdefghijklmnopqr")
        for length in (2, 9, 10, 17, 18, 273) * 3:
            packer.copy(length, 4).again(0, length + 1 - length // 273).again(1, 2)
        self.check(packer)


class Ends(StepsTest):
    def streams(self, size_told):
        """Finished packers, some of which need a byte more for the end, and some of which don't."""
        found = {True: 0, False: 0}
        for count in range(1, 40):
            packer = Packer(size=count if size_told else None).literals(bytes(range(count)))
            if not size_told:
                packer.end()
            wants = packer.span < TOP
            found[wants] += 1
            yield packer, wants, packer.finished()
        self.assertGreater(min(found.values()), 0)

    def test_size_not_told(self):
        for packer, wants, stream in self.streams(False):
            told = ask(get(8192, stream[:-1]), STATE, get(8192, stream[-1:] + [0, 0]), STATE, get(8192, [5]))
            count = len(packer.out)
            self.assertEqual(told[1:], [
                [1, count, len(stream) - 1], [0, 1], [2, count, len(stream)], [0, 0]])

    def test_size_told(self):
        for packer, wants, stream in self.streams(True):
            count = len(packer.out)
            needs = packer.marks[-2][0]
            told = ask(get(count, stream + [9]), STATE, get(0, [9]), STATE)
            self.assertEqual(told, [
                [count, needs] + packer.out, [1, count, needs], [0, 0], [1, count, needs]])
            told = ask(get(count, stream[:needs]), get(1, []), STATE, get(1, stream[needs:] + [9]), STATE)
            self.assertEqual(told[1:], [
                [0, 0], [1 if wants else 2, count, needs], [0, 1 if wants else 0], [2, count, len(stream)]])

    def test_size_told_and_room_left(self):
        for packer, wants, stream in self.streams(True):
            count = len(packer.out)
            told = ask(get(count + 1, stream + [9]), STATE)
            self.assertEqual(told, [[count, len(stream)] + packer.out, [2, count, len(stream)]])

    def test_size_0(self):
        packer = Packer(size=0)
        self.assertEqual(ask(get(1, packer.finished() + [3]), STATE), [[0, 18], [2, 0, 18]])

    def test_size_reached_by_a_copy(self):
        self.check(Packer(size=9).literals(b"ab").copy(7, 1), b"ababababa")
        self.check(Packer(size=3).literals(b"ab").one(), b"abb")

    def test_the_end_may_have_any_length(self):
        for length in (2, 3, 9, 17, 273):
            packer = Packer().literals(b"xyz")
            packer.copy(length, 2 ** 32 - 1)
            packer.marks.pop()
            stream = packer.finished()
            self.assertEqual(unpack_whole(stream), (packer.out, [2, 3, len(stream)]))


del StepsTest

if __name__ == "__main__":
    unittest.main()

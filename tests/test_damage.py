"""Each damage behind the head: at the byte that shows it, with what came before put out."""

import unittest

from tests.helper import NO_DISTANCE, STATE, TOP, Forecast, Model, Packer, ask, check_pieces, get, unpack_whole

TEXT = bytes(range(60, 200))


class DamageTest(unittest.TestCase):
    def check(self, packer, stream, sound):
        """The last byte of the stream shows damage, no byte before does, and the sound bytes are put out."""
        count = len(sound)
        whole = ask(get(8192, stream + [0] * 9), STATE, get(1, [0]), get(0, []), STATE)
        self.assertEqual(whole, [
            [count, len(stream)] + list(sound), [3, count, len(stream)], [-2], [-2], [3, count, len(stream)]])
        cut = ask(get(8192, stream[:-1]), STATE, get(8192, stream[-1:] + [0] * 9), STATE, get(1, [0]))
        self.assertIn(cut[1][0], (0, 1))
        self.assertEqual(cut[1][2], len(stream) - 1)
        self.assertEqual(cut[0][2:] + cut[2][2:], list(sound))
        self.assertEqual(cut[2][1], 1)
        self.assertEqual(cut[3:], [[3, count, len(stream)], [-2]])
        for room in (1, 7, 50):
            check_pieces(self, stream + [0], Forecast(packer.marks, packer.out), [9] * 59, [room] * 59)

    def check_last_step(self, packer):
        before = packer.marks[-2][1] if len(packer.marks) > 1 else 0
        stream = packer.spoiled()
        if len(packer.marks) > 1:
            # Else the step before would have been known by the same byte, and the check would say little.
            self.assertGreater(packer.marks[-1][0], packer.marks[-2][0])
        self.check(packer, stream, packer.out[:before])


class BadCopies(DamageTest):
    def test_before_the_beginning(self):
        for count in (1, 2, 5, 30, 140):
            for distance in (count, count + 1, 1000, 65535):
                with self.subTest((count, distance)):
                    self.check_last_step(Packer().literals(TEXT[:count]).copy(4, distance))

    def test_at_once(self):
        for distance in (0, 1, 900, 65535):
            self.check_last_step(Packer().copy(2, distance))

    def test_past_reach(self):
        for reach in (1, 2, 7, 100):
            for distance in (reach, reach + 1, 120):
                with self.subTest((reach, distance)):
                    self.check_last_step(Packer(reach=reach).literals(TEXT).copy(5, distance))

    def test_just_within_reach_and_beginning_is_sound(self):
        for reach, count in ((7, 50), (50, 7), (9, 9)):
            packer = Packer(reach=reach).literals(TEXT[:count]).copy(4, min(reach, count) - 1).literal(1).copy(5, 300)
            self.check_last_step(packer)

    def test_past_the_greatest_reach(self):
        packer = Packer().literals(TEXT)
        while len(packer.out) <= 65800:
            packer.copy(273, 100)
        out = list(packer.out)
        stream = packer.copy(2, 65536).spoiled()
        self.assertEqual(unpack_whole(stream), (out, [3, len(out), len(stream)]))
        self.assertEqual(unpack_whole(stream[:-1]), (out, [1, len(out), len(stream) - 1]))

    def test_greatest_distances_below_the_end(self):
        for distance in (NO_DISTANCE - 1, NO_DISTANCE - 16, 2 ** 31, 3 << 30, 2 ** 31 - 1):
            self.check_last_step(Packer().literals(TEXT[:9]).copy(3, distance))

    def test_more_than_the_size_told(self):
        for size, length in ((10, 7), (10, 273), (5, 3), (12, 9)):
            with self.subTest((size, length)):
                self.check_last_step(Packer(size=size).literals(TEXT[:4]).copy(length, 2))

    def test_more_than_the_size_told_again(self):
        for which in range(4):
            packer = Packer(size=12).literals(TEXT[:8]).copy(2, 5).literal(3)
            self.check_last_step(packer.again(which, 2))

    def test_damage_waits_for_the_distance(self):
        # The length is too great for the size, and the slot for what's out: the other bits are wanted all the same.
        packer = Packer(size=5).literals(TEXT[:4]).copy(273, 2 ** 31 - 5)
        before, last = packer.marks[-2][0], packer.marks[-1][0]
        self.assertGreaterEqual(last - before, 4)
        stream = packer.spoiled()
        for cut in range(before, last):
            told = ask(get(8192, stream[:cut]), STATE)
            self.assertEqual(told[1], [1, 4, cut])

    def test_behind_other_steps(self):
        packer = Packer().literals(TEXT).copy(20, 30).one().again(1, 4).literals(b"ab").copy(90, 3).copy(4, 5000)
        self.check_last_step(packer)


class BadAgain(DamageTest):
    def test_nothing_is_out(self):
        # Shown by the bit of "again" itself: nothing is read of which distance it would be.
        for size in (None, 8):
            packer = Packer(size=size)
            packer.bit(("match", 0, 0), 1)
            packer.bit(("again", 0), 1)
            packer.done()
            self.assertEqual(packer.marks[-1][0], 18)
            self.check(packer, packer.spoiled(), [])

    def test_each_kind_when_nothing_is_out(self):
        for packer in (Packer().one(), Packer().again(0, 2), Packer().again(3, 200)):
            told = ask(get(5, packer.bytes()), STATE, get(5, []))
            self.assertEqual(told, [[0, 18], [3, 0, 18], [-2]])


class BadEnds(DamageTest):
    def enders(self, size_told):
        for count in range(1, 60):
            packer = Packer(size=count if size_told else None).literals(TEXT[:count])
            yield packer if size_told else packer.end()

    def test_code_is_not_0(self):
        for size_told in (False, True):
            for more in (1, 255, 256, 65536):
                wants = {True: 0, False: 0}
                for packer in self.enders(size_told):
                    wants[packer.span < TOP] += 1
                    needs = packer.marks[-1][0]
                    stream = packer.finished(more)
                    if len(stream) > needs:
                        self.check(packer, stream, packer.out)
                    else:
                        told = ask(get(8192, stream), STATE, get(9, []))
                        self.assertEqual(told[1:], [[3, len(packer.out), len(stream)], [-2]])
                self.assertGreater(min(wants.values()), 0)

    def test_the_end_fills_before_it_looks(self):
        # Whatever byte came, the code would not be 0: yet the byte is wanted first.
        for size_told in (False, True):
            seen = 0
            for packer in self.enders(size_told):
                if packer.span < TOP:
                    seen += 1
                    stream = packer.bytes(1)
                    count = len(packer.out)
                    told = ask(get(8192, stream), STATE, get(8192, [0, 0]), STATE)
                    self.assertEqual(told[1:], [
                        [1, count, len(stream)], [0, 1], [3, count, len(stream) + 1]])
            self.assertGreater(seen, 0)

    def test_size_0_and_code_not_0(self):
        packer = Packer(size=0)
        stream = packer.finished(1)
        self.check(packer, stream, [])

    def test_size_told_is_looked_at_by_the_next_call(self):
        for packer in self.enders(True):
            if packer.span >= TOP:
                count = len(packer.out)
                stream = packer.bytes(5)
                told = ask(get(count, stream), STATE, get(0, []), STATE, get(1, []), STATE, get(1, []))
                self.assertEqual(told[1:], [
                    [1, count, len(stream)], [0, 0], [1, count, len(stream)],
                    [0, 0], [3, count, len(stream)], [-2]])

    def test_the_mark_of_the_end_where_the_size_is_told(self):
        wants = {True: 0, False: 0}
        for count in range(40):
            packer = Packer(size=count + 3).literals(TEXT[:count])
            packer.copy(2, NO_DISTANCE)
            # No byte is filled in for the end: it's damage as soon as the distance is known.
            wants[packer.span < TOP] += 1
            self.check_last_step(packer)
        self.assertGreater(min(wants.values()), 0)

    def test_one_byte_less_than_the_end_wants(self):
        packer = Packer().literals(TEXT[:20]).end()
        stream = packer.finished()
        for cut in range(18, len(stream)):
            self.assertEqual(ask(get(8192, stream[:cut]), STATE)[1][0], 1)

    def test_another_last_byte(self):
        packer = Packer().literals(TEXT[:20]).end()
        stream = packer.finished()
        for change in (1, 2, 77):
            wrong = stream[:-1] + [(stream[-1] + change) % 256]
            self.assertEqual(ask(get(8192, wrong), STATE)[1], [3, 20, len(stream)])


class BadEvenBits(DamageTest):
    """Only an odd range leaves a code that neither of its halves holds."""

    def packers(self):
        """Packers in the middle of a copy, before an even bit, with an odd range."""
        seen = {}
        for count in range(2, 90):
            for evens in range(4):
                packer = Packer().literals(TEXT[:count]).copy(273, 1).copy(273, count - 1).again(0, 100)
                # The chances of the slot's bits are odd behind two such copies.
                packer.copy(5, 512 + count).copy(5, 610 - count)
                packer.bit(("match", packer.st, packer.ps()), 1)
                packer.bit(("again", packer.st), 0)
                packer.length("new", 5)
                packer.tree(("slot", 3), 6, 18)
                for turn in range(evens):
                    packer.even(1)
                packer.fill()
                if packer.span % 2 == 1:
                    seen[evens] = True
                    yield packer
        self.assertEqual(sorted(seen), [0, 1, 2, 3])

    def test_code_not_below_the_range(self):
        seen = 0
        for packer in self.packers():
            packer.done().spoiled()
            stream = packer.bytes(packer.span - 1)
            count = len(packer.out)
            told = ask(get(8192, stream + [0] * 9), STATE, get(1, []))
            self.assertEqual(told, [[count, len(stream)] + packer.out, [3, count, len(stream)], [-2]])
            if packer.marks[-1][0] > packer.marks[-2][0]:
                seen += 1
                self.check(packer, stream, packer.out)
        self.assertGreater(seen, 0)

    def test_codes_just_below(self):
        verdicts = {}
        for packer in self.packers():
            for more in (packer.span - 2, packer.span - 3, packer.span // 2, packer.span // 2 - 1):
                stream = packer.bytes(more)
                model = Model(stream)
                verdicts[model.marks[-1][2]] = True
                check_pieces(self, stream, Forecast(model.marks, model.out), [25, 9] + [1] * 57, [8192] * 59)
        self.assertEqual(sorted(verdicts), ["damage", "more"])


class Sizes(DamageTest):
    def test_never_more_out_than_the_size_told(self):
        for size in range(1, 26):
            packer = Packer(size=size).literals(b"abcd").copy(5, 3).one().copy(12, 1).literals(b"efg")
            told = ask(get(8192, packer.bytes() + [0] * 20), STATE)
            self.assertLessEqual(told[0][0], size)
            self.assertEqual(told[0][2:], packer.out[:told[0][0]])


del DamageTest

if __name__ == "__main__":
    unittest.main()

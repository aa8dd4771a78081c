"""told and prop: what they answer of a head, when they're refused, and that asking changes nothing."""

import unittest

from tests.helper import (
    BEGIN, DAMAGED_HEADS, HEAD_CALLS, NO_HEAD, PACKED_NOTHING, STATE, TOLD, Packer, ask, get, head_answers,
    head_bytes, mixed, pack, packed, prop)

PACKED_HEAD = head_answers(None, 3, 0, 2, 65536)


class OfAHead(unittest.TestCase):
    def test_the_size(self):
        for size in (0, 1, 2, 255, 256, 2 ** 32 - 1, 2 ** 32, 2 ** 62 + 7, 2 ** 63 - 1):
            for code in (0, 1, 5000):
                told = ask(get(1, head_bytes(size=size, code=code)), TOLD)
                self.assertEqual(told[1], [1, size])

    def test_the_size_is_not_told(self):
        self.assertEqual(ask(get(1, head_bytes()), TOLD)[1], [0])

    def test_the_size_stands_lowest_first(self):
        row = head_bytes()
        row[5:13] = [1, 2, 3, 4, 5, 6, 7, 8]
        self.assertEqual(ask(get(1, row), TOLD)[1], [1, 0x0807060504030201])

    def test_every_d(self):
        for d in range(256):
            lc, lp, pb = d % 9, d // 9 % 5, d // 45
            sound = d < 225 and lc + lp <= 4
            wanted = head_answers(77, lc, lp, pb, 9) if sound else NO_HEAD
            self.assertEqual(ask(get(1, head_bytes(d, 9, 77)), *HEAD_CALLS)[1:], wanted, d)

    def test_reach(self):
        for reach in (1, 2, 255, 256, 258, 4096, 65535, 65536):
            self.assertEqual(ask(get(1, head_bytes(reach=reach)), prop(3))[1], [0, reach])

    def test_each_head_for_itself(self):
        told = ask(
            get(1, head_bytes(d=4, reach=7, size=3)), *HEAD_CALLS, BEGIN, *HEAD_CALLS,
            get(1, head_bytes(d=216, reach=8)), *HEAD_CALLS)
        self.assertEqual(told[1:6], head_answers(3, 4, 0, 0, 7))
        self.assertEqual(told[6:12], [[0]] + NO_HEAD)
        self.assertEqual(told[13:], head_answers(None, 0, 4, 4, 8))


class Refused(unittest.TestCase):
    def test_fewer_than_18_bytes_taken(self):
        stream = packed(b"abc")
        self.assertEqual(ask(*HEAD_CALLS), NO_HEAD)
        for cut in range(len(stream) + 1):
            told = ask(get(8192, stream[:cut]), *HEAD_CALLS)
            self.assertEqual(told[1:], NO_HEAD if cut < 18 else PACKED_HEAD, cut)

    def test_from_17_to_18(self):
        told = ask(get(1, PACKED_NOTHING[:17]), *HEAD_CALLS, get(1, PACKED_NOTHING[17:18]), *HEAD_CALLS)
        self.assertEqual(told, [[0, 17]] + NO_HEAD + [[0, 1]] + PACKED_HEAD)

    def test_handed_in_is_not_taken(self):
        told = ask(get(0, PACKED_NOTHING), *HEAD_CALLS, get(8193, PACKED_NOTHING), *HEAD_CALLS, STATE)
        self.assertEqual(told, [[0, 0]] + NO_HEAD + [[-3]] + NO_HEAD + [[0, 0, 0]])

    def test_packing_takes_nothing(self):
        told = ask(pack(b"abc"), *HEAD_CALLS, STATE)
        self.assertEqual(told[1:], NO_HEAD + [[0, 0, 0]])

    def test_a_damaged_head(self):
        for name, head in DAMAGED_HEADS.items():
            with self.subTest(name):
                told = ask(get(5, head), *HEAD_CALLS, prop(4), get(5, [0]), *HEAD_CALLS, STATE)
                self.assertEqual(told, [[0, 18]] + NO_HEAD + [[-3], [-2]] + NO_HEAD + [[3, 0, 18]])

    def test_which_above_3(self):
        for which in (4, 5, 255, 2 ** 31, 4294967295):
            told = ask(
                prop(which), get(1, PACKED_NOTHING[:17]), prop(which), get(1, PACKED_NOTHING[17:]), prop(which), STATE,
                get(1, [0]), prop(which), BEGIN, prop(which))
            self.assertEqual(told, [
                [-3], [0, 17], [-3], [0, 6], [-3], [2, 0, 23], [0, 0], [-3], [0], [-3]])

    def test_which_3_is_not_above_3(self):
        told = ask(prop(3), get(1, PACKED_NOTHING[:17]), prop(3), get(1, PACKED_NOTHING[17:]), prop(3), BEGIN, prop(3))
        self.assertEqual(told, [[-5], [0, 17], [-5], [0, 6], [0, 65536], [0], [-5]])

    def test_a_refusal_changes_nothing(self):
        stream = mixed(Packer()).end().finished()
        refused = [TOLD, prop(0), prop(4), prop(4294967295)]
        for cut in range(18):
            plain = ask(get(400, stream[:cut]), STATE, get(400, stream[cut:]), STATE)
            told = ask(get(400, stream[:cut]), *refused, STATE, *refused, get(400, stream[cut:]), STATE)
            self.assertEqual(told[1:5] + told[6:10], [[-5], [-5], [-3], [-3]] * 2)
            self.assertEqual([told[0], told[5]] + told[10:], plain)


class BehindTheHead(unittest.TestCase):
    def test_after_damage(self):
        streams = {
            "nothing out to copy": Packer(4, 0, 1, 300, 9).copy(2, 0).spoiled(),
            "too far back": Packer(4, 0, 1, 300, 9).literal(1).copy(2, 1).spoiled(),
            "more than the size": Packer(4, 0, 1, 300, 9).literal(1).copy(9, 0).spoiled(),
            "the end is not 0": Packer(4, 0, 1, 300, 9).literals(range(9)).finished(1),
        }
        for name, stream in streams.items():
            with self.subTest(name):
                told = ask(get(50, stream), STATE, *HEAD_CALLS, prop(4), get(50, [0]), *HEAD_CALLS)
                self.assertEqual(told[1][0], 3)
                self.assertEqual(told[2:], head_answers(9, 4, 0, 1, 300) + [[-3], [-2]] + head_answers(9, 4, 0, 1, 300))

    def test_damage_that_no_byte_behind_the_head_is_wanted_for(self):
        for head, wanted in (
                (head_bytes(code=2 ** 32 - 2), PACKED_HEAD),
                (head_bytes(size=0, code=1), head_answers(0, 3, 0, 2, 65536))):
            told = ask(get(1, head), STATE, *HEAD_CALLS)
            self.assertEqual(told, [[0, 18], [3, 0, 18]] + wanted)

    def test_a_code_of_all_ones_is_the_head_s_damage(self):
        told = ask(get(1, head_bytes(code=2 ** 32 - 1)), STATE, *HEAD_CALLS)
        self.assertEqual(told, [[0, 18], [3, 0, 18]] + NO_HEAD)

    def test_after_the_end(self):
        stream = packed(b"abc")
        told = ask(get(9, stream), STATE, *HEAD_CALLS, prop(4), get(9, [1]), *HEAD_CALLS)
        self.assertEqual(told[1:], [[2, 3, len(stream)]] + PACKED_HEAD + [[-3], [0, 0]] + PACKED_HEAD)

    def test_after_the_end_of_nothing(self):
        told = ask(get(9, head_bytes(d=0, reach=1, size=0)), STATE, *HEAD_CALLS)
        self.assertEqual(told, [[0, 18], [2, 0, 18]] + head_answers(0, 0, 0, 0, 1))

    def test_after_begin(self):
        broken = Packer(size=5).copy(2, 0).spoiled()
        for row in ([], PACKED_NOTHING[:17], PACKED_NOTHING[:18], PACKED_NOTHING, broken, DAMAGED_HEADS["reach 0"]):
            told = ask(get(9, row), BEGIN, *HEAD_CALLS, prop(4), get(9, PACKED_NOTHING), *HEAD_CALLS)
            self.assertEqual(told[2:], NO_HEAD + [[-3], [0, 23]] + PACKED_HEAD)

    def test_asking_changes_nothing(self):
        packer = mixed(Packer(2, 1, 3, 5000))
        stream = packer.end().finished()
        for cut in range(18, len(stream) + 1):
            plain = ask(get(400, stream[:cut]), STATE)
            taken = plain[1][2]
            plain += ask(get(400, stream[:cut]), get(400, stream[taken:]), STATE)[1:]
            told = ask(get(400, stream[:cut]), *HEAD_CALLS, STATE, *HEAD_CALLS, get(400, stream[taken:]), STATE)
            self.assertEqual([told[0], told[6]] + told[12:], plain)
            self.assertEqual(told[1:6] + told[7:12], head_answers(None, 2, 1, 3, 5000) * 2)


if __name__ == "__main__":
    unittest.main()

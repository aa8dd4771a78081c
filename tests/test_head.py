"""The head: when it's looked at, and each way in which it's damaged."""

import unittest

from tests.helper import DAMAGED_HEADS, STATE, Packer, ask, get, head_bytes, unpack_whole

SOUND = {
    "d 0": head_bytes(d=0),
    "lc 4": head_bytes(d=4),
    "lp 4": head_bytes(d=36),
    "pb 4, lp 4, the greatest d": head_bytes(d=216),
    "lc 2, lp 2, pb 4": head_bytes(d=200),
    "reach 1": head_bytes(reach=1),
    "reach 65536": head_bytes(reach=65536),
    "size 1": head_bytes(size=1),
    "size 2 to the 63rd less 1": head_bytes(size=2 ** 63 - 1),
}


class Head(unittest.TestCase):
    def test_each_damage(self):
        for name, head in DAMAGED_HEADS.items():
            with self.subTest(name):
                told = ask(get(5, head), STATE, get(5, [0]), STATE)
                self.assertEqual(told, [[0, 18], [3, 0, 18], [-2], [3, 0, 18]])

    def test_what_is_not_damage(self):
        for name, head in SOUND.items():
            with self.subTest(name):
                told = ask(get(1, head), STATE)
                self.assertEqual(told[1][0], 1)
                self.assertEqual(told[0][1], 18)

    def test_damage_is_told_at_the_last_byte_of_the_head(self):
        for name, head in DAMAGED_HEADS.items():
            with self.subTest(name):
                told = ask(get(5, head[:1]), STATE, get(5, head[1:17]), STATE, get(5, head[17:] + [0, 0]), STATE)
                self.assertEqual(told, [[0, 1], [0, 0, 1], [0, 16], [0, 0, 17], [0, 1], [3, 0, 18]])

    def test_byte_by_byte(self):
        for head, last in ((DAMAGED_HEADS["reach 0"], 3), (SOUND["d 0"], 1)):
            calls = [call for byte in head for call in (get(1, [byte]), STATE)]
            told = ask(*calls)
            self.assertEqual([answer[1] for answer in told[::2]], [1] * 18)
            self.assertEqual([answer[0] for answer in told[1::2]], [0] * 17 + [last])

    def test_nothing_more_is_taken_behind_a_damaged_head(self):
        self.assertEqual(ask(get(8192, DAMAGED_HEADS["lc 5"] + [1, 2, 3])), [[0, 18]])

    def test_lc_lp_pb_are_what_the_steps_go_by(self):
        row = [k * 37 % 256 for k in range(30)] + [200, 100] * 8 + [7, 7, 7, 8]
        for lc in range(5):
            for lp in range(5 - lc):
                for pb in range(5):
                    packer = Packer(lc, lp, pb).literals(row).copy(4, 9).literals(row).one().copy(11, 2)
                    stream = packer.again(1, 3).literals(row).end().finished()
                    with self.subTest((lc, lp, pb)):
                        self.assertEqual(unpack_whole(stream), (packer.out, [2, len(packer.out), len(stream)]))

    def test_the_bytes_of_reach_and_size_stand_lowest_first(self):
        packer = Packer(reach=257, size=300).literals(range(256)).literals([1, 2, 3]).copy(41, 256)
        stream = packer.finished()
        self.assertEqual(stream[1:13], [1, 1, 0, 0, 44, 1, 0, 0, 0, 0, 0, 0])
        self.assertEqual(unpack_whole(stream), (packer.out, [2, 300, len(stream)]))


if __name__ == "__main__":
    unittest.main()

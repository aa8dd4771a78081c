"""pack: the one stream that it makes of some bytes, that this is unpacked, and that the stream under way stays."""

import unittest
from random import Random

from rangestream.unpacker import Unpacker
from tests.helper import (
    BEGIN, HEAD_CALLS, PACKED_NOTHING, STATE, TOLD, Forecast, Packer, ask, check_pieces, get, head_bytes, mixed, pack,
    pack_answer, packed, prop)

ROWS = {
    "no bytes": [],
    "one byte": [97],
    "one byte of 0": [0],
    "one byte of 255": [255],
    "two bytes": [255, 0],
    "five bytes": [1, 2, 3, 4, 5],
    "40 bytes alike": [7] * 40,
    "40 of 0 and 255 in turn": [0, 255] * 20,
    "1024 of 0": [0] * 1024,
    "1024 of 255": [255] * 1024,
    "1024 alike": [170] * 1024,
    "1024 of 0 and 255 in turn": [0, 255] * 512,
    "1024 of 255 and 0 in turn": [255, 0] * 512,
    "1024 that go up": list(range(256)) * 4,
    "1024 by chance": list(Random(5).randbytes(1024)),
    "1023 by chance": list(Random(8).randbytes(1023)),
}


class Packed(unittest.TestCase):
    def test_nothing(self):
        self.assertEqual(ask(pack([])), [[23] + PACKED_NOTHING])

    def test_each_row(self):
        for name, row in ROWS.items():
            with self.subTest(name):
                self.assertEqual(ask(pack(row)), [pack_answer(row)])

    def test_every_byte(self):
        for byte in range(256):
            self.assertEqual(ask(pack([byte])), [pack_answer([byte])])
        for last in range(0, 256, 16):
            rows = [[last, byte] for byte in range(0, 256, 5)]
            self.assertEqual(ask(*map(pack, rows)), [pack_answer(row) for row in rows])

    def test_every_count(self):
        row = list(Random(11).randbytes(1024))
        for count in list(range(70)) + [1000, 1021, 1022, 1023, 1024]:
            rows = (row[:count], [0] * count)
            self.assertEqual(ask(*map(pack, rows)), [pack_answer(each) for each in rows])

    def test_bytes_by_chance(self):
        chance = Random(12)
        for turn in range(150):
            few = [chance.randrange(256) for each in range(chance.choice((1, 2, 4, 20)))]
            row = [chance.choice(few) for each in range(chance.randrange(300))]
            self.assertEqual(ask(pack(row)), [pack_answer(row)])

    def test_the_head(self):
        for row in ROWS.values():
            made = ask(pack(row))[0][1:]
            self.assertEqual(made[:14], head_bytes()[:14])

    def test_all_are_bytes(self):
        for row in ROWS.values():
            answer = ask(pack(row))[0]
            self.assertEqual(answer[0], len(answer) - 1)
            self.assertTrue(all(0 <= byte <= 255 for byte in answer[1:]))


class Refused(unittest.TestCase):
    def test_more_than_1024_bytes(self):
        for count in (1025, 1026, 2048, 4095, 4096):
            for byte in (0, 255):
                self.assertEqual(ask(pack([byte] * count), STATE), [[-3], [0, 0, 0]])

    def test_1024_bytes(self):
        told = ask(pack([9] * 1025), pack([9] * 1024), pack([9] * 1025))
        self.assertEqual(told, [[-3], pack_answer([9] * 1024), [-3]])

    def test_at_any_state(self):
        for row, kind in (([], 0), (PACKED_NOTHING[:18], 1), (PACKED_NOTHING, 2), ([225] * 18, 3)):
            told = ask(get(9, row), pack([1] * 1025), pack([1] * 4096), STATE, pack([1]))
            self.assertEqual(told[1:], [[-3], [-3], [kind, 0, len(row)], pack_answer([1])])


class Unpacked(unittest.TestCase):
    """What's packed is unpacked, wherever it's cut and whatever the rooms are."""

    def check(self, row, piece, room):
        """Such pieces and rooms at the beginning, in the middle and up to the end: a line has 60 calls at most."""
        packer = Packer().literals(row).end()
        stream = packer.finished()
        for start in (0, len(row) // 2, max(0, len(row) - 20)):
            forecast = Forecast(packer.marks, packer.out)
            check_pieces(self, stream, forecast, [len(stream)] + [piece] * 58, [start] + [room] * 58)
        self.assertEqual(forecast.verdict, "end")

    def check_whole(self, row, piece, room):
        """All of it in such pieces and rooms, by the stream itself, to which any number of calls may be made."""
        made = ask(pack(row))[0][1:]
        stream = Unpacker()
        out, at = [], 0
        while stream.state()[0] < 2:
            answer = stream.get(room, made[at:at + piece])
            self.assertGreater(sum(answer[:2]) + (stream.state()[0] == 2), 0)
            out += answer[2:]
            at += answer[1]
        self.assertEqual((out, stream.state()), (row, [2, len(row), len(made)]))

    def test_in_one_piece_into_one_room(self):
        for name, row in ROWS.items():
            with self.subTest(name):
                made = ask(pack(row))[0][1:]
                told = ask(get(8192, made), STATE, get(8192, made), STATE)
                done = [2, len(row), len(made)]
                self.assertEqual(told, [[len(row), len(made)] + row, done, [0, 0], done])

    def test_packed_and_unpacked_in_one_line(self):
        for name, row in ROWS.items():
            with self.subTest(name):
                made = packed(row)
                told = ask(pack(row), get(8192, made), STATE, pack(row), TOLD)
                self.assertEqual(told[0], told[3])
                self.assertEqual(told[1:3] + told[4:], [[len(row), len(made)] + row, [2, len(row), len(made)], [0]])

    def test_in_pieces_and_rooms(self):
        for name, row in ROWS.items():
            for piece in (1, 2, 7, 200):
                for room in (1, 3, 8192):
                    with self.subTest((name, piece, room)):
                        self.check(row, piece, room)

    def test_whole_in_pieces_and_rooms(self):
        for name, row in ROWS.items():
            for piece in (1, 4096):
                for room in (1, 8192):
                    with self.subTest((name, piece, room)):
                        self.check_whole(row, piece, room)

    def test_it_ends_with_its_last_byte(self):
        for name, row in ROWS.items():
            with self.subTest(name):
                made = ask(pack(row))[0][1:]
                told = ask(get(8192, made[:-1]), STATE, get(8192, made[-1:]), STATE)
                self.assertEqual(told, [
                    [len(row), len(made) - 1] + row, [1, len(row), len(made) - 1], [0, 1], [2, len(row), len(made)]])

    def test_nothing_behind_it_is_taken(self):
        for name, row in ROWS.items():
            for behind in ([0] * 9, [255] * 9):
                made = ask(pack(row))[0][1:]
                self.assertEqual(ask(get(8192, made + behind), STATE)[1], [2, len(row), len(made)], name)

    def test_another_last_byte_is_damage(self):
        for name, row in ROWS.items():
            made = ask(pack(row))[0][1:]
            for last in (made[-1] + 1, made[-1] + 255):
                told = ask(get(8192, made[:-1] + [last % 256]), STATE)
                self.assertEqual(told[1], [3, len(row), len(made)], name)


class TheStreamUnderWay(unittest.TestCase):
    def lines(self):
        yield mixed(Packer()).end().finished()
        yield mixed(Packer(1, 2, 1, 2000, 743)).finished()
        yield Packer(0, 3, 4, 9).literals(b"abc").copy(3, 2).copy(4, 9).spoiled()
        yield [225] * 18 + [0] * 30
        yield packed(b"packed too")

    def test_pack_between_two_gets_changes_nothing(self):
        asked = [STATE] + HEAD_CALLS
        packs = [pack([]), pack(b"packed by the way"), pack([1] * 1025)]
        for stream in self.lines():
            for cut in range(len(stream) + 1):
                first = ask(get(60, stream[:cut]))[0]
                second = get(700, stream[first[1]:])
                plain = ask(get(60, stream[:cut]), *asked, second, *asked)
                told = ask(*packs, get(60, stream[:cut]), *packs, *asked, *packs, second, *packs, *asked)
                self.assertEqual(told[3:4] + told[7:13] + told[16:17] + told[20:], plain)
                made = [pack_answer([]), pack_answer(b"packed by the way"), [-3]]
                self.assertEqual(told[:3] + told[4:7] + told[13:16] + told[17:20], made * 4)

    def test_pack_of_1024_bytes_in_the_middle_of_a_step(self):
        row = list(Random(9).randbytes(1024))
        stream = mixed(Packer()).end().finished()
        for cut in range(16, len(stream), 5):
            plain = ask(get(8192, stream[:cut]), STATE, get(8192, stream[cut:]), STATE)
            told = ask(get(8192, stream[:cut]), pack(row), STATE, pack(row), get(8192, stream[cut:]), STATE)
            self.assertEqual([told[0], told[2]] + told[4:], plain)
            self.assertEqual([told[1], told[3]], [pack_answer(row)] * 2)

    def test_the_stream_under_way_does_not_change_what_is_packed(self):
        stream = Packer(0, 0, 0).literals(b"other chances, other bytes" * 5).bytes()
        told = ask(pack(b"abc"), get(8192, stream), pack(b"abc"), BEGIN, pack(b"abc"), get(5, [0] * 18), pack(b"abc"))
        self.assertEqual(told[::2], [pack_answer(b"abc")] * 4)

    def test_prop_is_of_the_stream_under_way(self):
        told = ask(get(5, head_bytes(d=4, reach=11, size=6)), pack(b"abc"), TOLD, prop(0), prop(3))
        self.assertEqual(told[2:], [[1, 6], [0, 4], [0, 11]])


if __name__ == "__main__":
    unittest.main()

"""One stream in pieces of every size and into rooms of every size."""

import unittest
from itertools import cycle, islice

from tests.helper import BEGIN, STATE, Forecast, Packer, ask, check_pieces, get, mixed


def short_packer(size=None):
    """Steps of all kinds, in so few bytes, and coming to so few, that 59 calls do for them one by one."""
    packer = Packer(size=size).literals(b"abcdef").copy(4, 2).literals(b"gc").one().copy(10, 5).again(1, 3)
    packer.copy(2, 20).again(2, 8).again(3, 2).literals(b"zy").again(0, 5)
    return packer if size is not None else packer.end()


class Pieces(unittest.TestCase):
    def check(self, packer, stream, pieces, rooms):
        """The answers to these pieces and rooms, over and over; gives back how far the stream comes by them."""
        forecast = Forecast(packer.marks, packer.out)
        with self.subTest((pieces, rooms)):
            check_pieces(self, stream, forecast, islice(cycle(pieces), 59), cycle(rooms))
        return forecast.verdict

    def packers(self):
        count = len(short_packer().out)
        for size in (None, count):
            packer = short_packer(size)
            yield packer, packer.finished()
        packer = mixed(Packer()).end()
        yield packer, packer.finished()

    def test_one_by_one_is_enough_for_the_short_stream(self):
        for size in (None, len(short_packer().out)):
            packer = short_packer(size)
            stream = packer.finished()
            self.assertEqual(self.check(packer, stream, [1], [8192]), "end")
            self.assertEqual(self.check(packer, stream, [4096], [1]), "end")

    def test_pieces_of_every_size(self):
        for packer, stream in self.packers():
            for piece in range(len(stream) + 2):
                for room in (1, 2, 3, 7, 8192):
                    self.check(packer, stream, [piece], [room])

    def test_rooms_of_every_size(self):
        for packer, stream in self.packers():
            for room in range(len(packer.out) + 2):
                for piece in (3, 19, 4096):
                    self.check(packer, stream, [piece], [room])

    def test_pieces_and_rooms_that_change(self):
        for packer, stream in self.packers():
            for first in range(1, 24):
                self.check(packer, stream, [first, 1, 0, 5, 2], [9, 0, 1, 40, 2, 3, 8192])
                self.check(packer, stream, [first, 30], [0, 1, first])

    def test_cut_anywhere(self):
        for packer, stream in self.packers():
            for cut in range(len(stream) + 1):
                told = ask(get(8192, stream[:cut]), get(8192, stream[cut:]), STATE)
                self.assertEqual(told[0][2:] + told[1][2:], packer.out)
                self.assertEqual(told[2], [2, len(packer.out), len(stream)])

    def test_cut_at_two_places(self):
        packer = short_packer()
        stream = packer.finished()
        for one in range(0, len(stream) + 1):
            for two in range(one, len(stream) + 1, 3):
                told = ask(get(8192, stream[:one]), get(8192, stream[one:two]), get(8192, stream[two:]))
                self.assertEqual([len(answer) - 2 for answer in told], [answer[0] for answer in told])
                self.assertEqual([byte for answer in told for byte in answer[2:]], packer.out)

    def test_bytes_behind_do_not_change_what_was_come_to(self):
        packer = mixed(Packer())
        stream = packer.bytes()
        before = []
        for cut in range(len(stream)):
            for behind in ([], [0] * 9, [255] * 9):
                answer = ask(get(8192, stream[:cut] + behind))[0]
                self.assertEqual(answer[2:2 + len(before)], before)
            before = ask(get(8192, stream[:cut]))[0][2:]

    def test_each_byte_as_soon_as_it_is_come_to(self):
        packer = mixed(Packer())
        stream = packer.bytes()
        for cut in range(len(stream) + 1):
            wanted = max([0] + [out for need, out, verdict in packer.marks if need <= cut])
            self.assertEqual(ask(get(8192, stream[:cut]))[0], [wanted, cut] + packer.out[:wanted])

    def test_as_few_bytes_as_will_do(self):
        packer = mixed(Packer())
        stream = packer.bytes()
        for room in range(1, len(packer.out) + 1):
            need = min(need for need, out, verdict in packer.marks if out >= room)
            self.assertEqual(ask(get(room, stream))[0], [room, need] + packer.out[:room])
            self.assertLess(ask(get(room, stream[:need - 1]))[0][0], room)

    def test_several_literals_by_one_byte(self):
        packer = Packer().literals([0] * 400).end()
        stream = packer.finished()
        needs = [mark[0] for mark in packer.marks]
        self.assertGreater(max(needs.count(need) for need in needs), 20)
        for pieces, rooms in (([1], [1]), ([1], [8192]), ([4096], [1, 0]), ([4096], [13]), ([20, 1], [3, 50])):
            self.check(packer, stream, pieces, rooms)


class OtherBytes(unittest.TestCase):
    """A copy's bytes for which there's no room are put out by the next calls."""

    def setUp(self):
        self.packer = Packer().literals(b"abc").copy(273, 2).literals(b"yz").end()
        self.stream = self.packer.finished()
        self.need = self.packer.marks[3][0]
        self.rest = self.stream[self.need:]

    def test_nothing_is_taken_for_them(self):
        out = self.packer.out
        told = ask(get(10, self.stream), STATE, get(100, self.rest), get(0, self.rest), get(166, self.rest), STATE)
        self.assertEqual(told, [
            [10, self.need] + out[:10], [1, 10, self.need], [100, 0] + out[10:110], [0, 0],
            [166, 0] + out[110:276], [1, 276, self.need]])

    def test_no_step_is_begun_when_there_is_enough(self):
        told = ask(get(10, self.stream), get(266, self.rest), get(1, self.rest))
        self.assertEqual(told[1], [266, 0] + self.packer.out[10:276])
        self.assertEqual(told[2], [1, self.packer.marks[4][0] - self.need, ord("y")])

    def test_a_step_is_begun_when_one_is_missing(self):
        told = ask(get(10, self.stream), get(267, self.rest))
        self.assertEqual(told[1], [267, self.packer.marks[4][0] - self.need] + self.packer.out[10:277])

    def test_they_are_put_out_without_any_bytes(self):
        told = ask(get(10, self.stream), get(8192, []))
        self.assertEqual(told[1], [266, 0] + self.packer.out[10:276])

    def test_one_by_one(self):
        told = ask(get(230, self.stream), *[get(1, self.rest)] * 46, STATE)
        self.assertEqual(told[1:-1], [[1, 0, byte] for byte in self.packer.out[230:276]])
        self.assertEqual(told[-1], [1, 276, self.need])


class NoRoom(unittest.TestCase):
    def test_cap_0_takes_nothing(self):
        packer = short_packer()
        stream = packer.finished()
        for cut in range(len(stream) + 1):
            told = ask(get(8192, stream[:cut]), STATE, get(0, stream[cut:] or [0]), STATE, get(8192, stream[cut:]))
            self.assertEqual(told[2], [0, 0])
            self.assertEqual(told[3], told[1])
            self.assertEqual(told[0][2:] + told[4][2:], packer.out)

    def test_cap_0_does_not_look_at_the_end(self):
        stream = Packer(size=0).finished()
        told = ask(get(0, stream), STATE, get(1, stream), STATE)
        self.assertEqual(told, [[0, 0], [0, 0, 0], [0, 18], [2, 0, 18]])

    def test_cap_0_takes_no_damaged_head(self):
        self.assertEqual(ask(get(0, [225] * 18), STATE), [[0, 0], [0, 0, 0]])


class BeginAnew(unittest.TestCase):
    def test_in_the_middle_of_a_stream(self):
        old = mixed(Packer(lc=1, lp=2, pb=4)).end().finished()
        packer = short_packer()
        stream = packer.finished()
        whole = [[len(packer.out), len(stream)] + packer.out, [2, len(packer.out), len(stream)]]
        for cut in range(len(old) + 1):
            told = ask(get(8192, old[:cut]), BEGIN, STATE, get(8192, stream), STATE)
            self.assertEqual(told[1:], [[0], [0, 0, 0]] + whole)

    def test_while_a_copy_has_bytes_left(self):
        old = Packer().literal(5).copy(273, 0).bytes()
        told = ask(get(3, old), BEGIN, get(50, []), STATE)
        self.assertEqual(told[1:], [[0], [0, 0], [0, 0, 0]])

    def test_behind_damage_and_behind_the_end(self):
        stream = short_packer().finished()
        told = ask(get(1, [255] * 18), BEGIN, get(8192, stream), STATE, BEGIN, get(8192, stream), STATE)
        self.assertEqual(told[2:4], told[5:7])
        self.assertEqual(told[3][0], 2)


if __name__ == "__main__":
    unittest.main()

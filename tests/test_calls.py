"""Refusals of get and their order, get once the end was shown, and what state answers."""

import unittest

from tests.helper import BEGIN, PACKED_NOTHING, STATE, Packer, ask, get, mixed, packed


class Refusals(unittest.TestCase):
    def test_cap_8192_and_above(self):
        for cap in (8193, 8194, 65536, 2 ** 31, 2 ** 32 - 1):
            self.assertEqual(ask(get(cap, PACKED_NOTHING), STATE), [[-3], [0, 0, 0]])
        self.assertEqual(ask(get(8192, PACKED_NOTHING), STATE), [[0, 23], [2, 0, 23]])

    def test_8192_bytes_at_once(self):
        packer = Packer().literals(b"abc")
        while len(packer.out) < 9000:
            packer.copy(273, 2)
        told = ask(get(8192, packer.bytes()), get(8192, []))
        self.assertEqual(told[0][0], 8192)
        self.assertEqual(told[0][2:] + told[1][2:], packer.out[:8192 + told[1][0]])

    def test_a_refusal_changes_nothing(self):
        packer = mixed(Packer())
        stream = packer.end().finished()
        for cut in range(len(stream) + 1):
            told = ask(get(50, stream[:cut]), STATE, get(8193, stream), STATE)
            self.assertEqual(told[2], [-3])
            self.assertEqual(told[3], told[1])
            taken = told[0][1]
            told = ask(get(50, stream[:cut]), get(8193, stream), get(8192, stream[taken:]), STATE)
            self.assertEqual(told[0][2:] + told[2][2:], packer.out)
            self.assertEqual(told[3], [2, len(packer.out), len(stream)])

    def test_damage_was_shown_by_an_earlier_call(self):
        told = ask(get(1, [0] * 18), STATE, get(1, []), get(0, []), get(8192, [1, 2]), get(8192, PACKED_NOTHING), STATE)
        self.assertEqual(told, [[0, 18], [3, 0, 18], [-2], [-2], [-2], [-2], [3, 0, 18]])

    def test_the_order(self):
        told = ask(get(1, [0] * 18), get(8193, []), get(8192, []), get(2 ** 32 - 1, [1]), STATE)
        self.assertEqual(told[1:], [[-3], [-2], [-3], [3, 0, 18]])

    def test_no_refusal_of_cap_by_what_is_out_or_by_the_row(self):
        stream = packed(b"abc")
        for cap in (0, 1, 8191, 8192):
            self.assertGreaterEqual(ask(get(cap, stream + [0] * 4000))[0][0], 0)


class BehindTheEnd(unittest.TestCase):
    def test_get(self):
        stream = packed(b"abc")
        told = ask(get(9, stream), STATE, get(9, [1]), get(0, [1]), get(8192, stream), get(1, []), get(8193, []), STATE)
        done = [2, 3, len(stream)]
        self.assertEqual(told, [
            [3, len(stream), 97, 98, 99], done, [0, 0], [0, 0], [0, 0], [0, 0], [-3], done])

    def test_begin(self):
        stream = packed(b"abc")
        told = ask(get(9, stream), BEGIN, STATE, get(9, stream), STATE)
        self.assertEqual(told[1:3], [[0], [0, 0, 0]])
        self.assertEqual(told[3], told[0])


class States(unittest.TestCase):
    def test_at_first(self):
        told = ask(STATE, BEGIN, STATE, BEGIN, BEGIN, STATE)
        self.assertEqual(told, [[0, 0, 0], [0], [0, 0, 0], [0], [0], [0, 0, 0]])

    def test_how_many_were_put_out_not_come_to(self):
        packer = Packer().literal(1).copy(100, 0)
        stream = packer.bytes()
        need = packer.marks[0][0]
        told = ask(get(1, stream), STATE, get(2, stream[need:]), STATE, get(0, []), STATE, get(90, []), STATE)
        self.assertEqual(told[1], [1, 1, need])
        self.assertEqual(told[3::2], [[1, 3, len(stream)], [1, 3, len(stream)], [1, 93, len(stream)]])

    def test_from_18_bytes_on(self):
        stream = packed(b"abc")
        for cut in range(18):
            self.assertEqual(ask(get(9, stream[:cut]), STATE)[1], [0, 0, cut])
        self.assertEqual(ask(get(9, stream[:18]), STATE)[1][0], 1)

    def test_asking_changes_nothing(self):
        stream = mixed(Packer()).end().finished()
        plain = ask(get(100, stream[:30]), get(100, stream[30:]))
        told = ask(STATE, get(100, stream[:30]), STATE, STATE, get(100, stream[30:]), STATE)
        self.assertEqual([told[1], told[4]], plain)
        self.assertEqual(told[2], told[3])


if __name__ == "__main__":
    unittest.main()

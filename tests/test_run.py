"""The document's run, and how calls are handed in and answered."""

import subprocess
import sys
import unittest
from random import Random

from rangestream.streams import answers
from tests.helper import (
    BEGIN, PACKED_NOTHING, STATE, TOLD, Packer, ask, get, head_bytes, mixed, pack, pack_answer, packed, prop)


class Watched(list):
    """A list that is not to be changed, not for a while either."""

    def refuse(self, *args):
        raise AssertionError("what is handed in was changed")

    __setitem__ = __delitem__ = __iadd__ = __imul__ = refuse
    append = clear = extend = insert = pop = remove = reverse = sort = refuse


class DocumentRun(unittest.TestCase):
    def test_the_run(self):
        told = ask(
            get(1, []), STATE, TOLD, pack([]), get(9, PACKED_NOTHING), STATE, TOLD, prop(0), prop(3), prop(4),
            get(9, [1]), BEGIN, get(9, [225] * 18), STATE, get(9, [1]), prop(0))
        self.assertEqual(told, [
            [0, 0], [0, 0, 0], [-5], [23] + PACKED_NOTHING, [0, 23], [2, 0, 23], [0], [0, 3], [0, 65536], [-3],
            [0, 0], [0], [0, 18], [3, 0, 18], [-2], [-5]])

    def test_the_run_number_by_number(self):
        line = [1, 1, 0, 2, 3, 5, 0, 1, 9, 23] + PACKED_NOTHING + [2, 3, 4, 0, 4, 3, 4, 4, 1, 9, 1, 1]
        line += [0, 1, 9, 18] + [225] * 18 + [2, 1, 9, 1, 1, 4, 0]
        self.assertEqual(answers(line), [
            2, 0, 0, 3, 0, 0, 0, 1, -5,
            24, 23, 93, 0, 0, 1, 0, 255, 255, 255, 255, 255, 255, 255, 255, 0, 131, 255, 251, 255, 255, 192, 0, 0, 0,
            2, 0, 23, 3, 2, 0, 23, 1, 0, 2, 0, 3, 2, 0, 65536, 1, -3, 2, 0, 0,
            1, 0, 2, 0, 18, 3, 3, 0, 18, 1, -2, 1, -5])

    def test_the_packer_of_the_tests_packs_as_the_run_does(self):
        self.assertEqual(packed([]), PACKED_NOTHING)


class Interface(unittest.TestCase):
    def test_bytes_stand_behind_two_numbers(self):
        stream = packed(b"abc")
        self.assertEqual(answers([1, 8192, len(stream)] + stream), [5, 3, len(stream), 97, 98, 99])

    def test_packed_bytes_stand_behind_how_many(self):
        stream = packed(b"abc")
        self.assertEqual(answers([5, 3, 97, 98, 99]), [1 + len(stream), len(stream)] + stream)

    def test_whole_numbers_only(self):
        stream = packed(b"abc")
        calls = [STATE, TOLD, prop(0), BEGIN, get(5, stream), STATE, TOLD, prop(0), prop(3), prop(4), get(9, []), STATE]
        calls += [pack([]), pack(b"abc"), pack([0] * 1025), BEGIN, get(5, head_bytes(size=2)), TOLD]
        given = answers([number for call in calls for number in call])
        self.assertIs(type(given), list)
        self.assertEqual({type(number) for number in given}, {int})

    def test_what_is_handed_in_stays(self):
        stream = packed(b"a stream")
        line = get(5, stream) + STATE + TOLD + prop(1) + prop(9) + pack(b"a stream") + pack([7] * 1025)
        line += BEGIN + get(3, [225] * 30) + STATE + TOLD + pack([255, 0] * 40) + get(8193, stream)
        watched = Watched(line)
        answers(watched)
        self.assertEqual(watched, line)

    def test_what_is_given_back_is_new(self):
        line = get(50, packed(b"a stream"))
        first = answers(line)
        kept = list(first)
        first.clear()
        self.assertEqual(answers(line), kept)

    def test_nothing_is_kept_from_one_time_to_the_next(self):
        stream = mixed(Packer()).end().finished()
        half = get(300, stream[:40]) + STATE + TOLD + prop(3) + pack(b"half")
        broken = get(9, [225] * 18) + STATE + TOLD + pack([9] * 1024) + pack([9] * 1025)
        first = answers(half)
        second = answers(broken)
        for turn in range(2):
            self.assertEqual(answers(half), first)
            self.assertEqual(answers(broken), second)
            self.assertEqual(answers(STATE + TOLD + prop(0)), [3, 0, 0, 0, 1, -5, 1, -5])
            self.assertEqual(answers(pack([])), [24, 23] + PACKED_NOTHING)

    def test_chances_learned_in_packing_are_not_kept(self):
        row = b"the same bytes once more"
        told = ask(*[pack(row)] * 5)
        self.assertEqual(told, [pack_answer(row)] * 5)

    def test_the_longest_line(self):
        row = [k * k * 13 % 256 ^ k // 3 % 256 for k in range(29000)]
        stream = packed(row)
        at, out, calls = 0, [], []
        for turn in range(7):
            calls.append(get(8192, stream[at:at + 4096]))
            at += 4096
        for answer in ask(*calls, STATE)[:-1]:
            out += answer[2:]
        self.assertGreater(len(out), 20000)
        self.assertEqual(out, row[:len(out)])

    def test_30000_numbers_and_all_kinds(self):
        row = list(Random(6).randbytes(29000))
        stream = packed(row)
        calls = [BEGIN, TOLD] + [get(8192, stream[k:k + 4096]) for k in range(0, 7 * 4096, 4096)]
        calls += [pack(row[:1024]), STATE, TOLD, prop(3), prop(4)]
        left = 30000 - sum(map(len, calls))
        calls.append(get(8192, stream[7 * 4096:][:left - 3]))
        self.assertEqual(sum(map(len, calls)), 30000)
        told = ask(*calls)
        gets = told[2:9] + told[-1:]
        out = [byte for answer in gets for byte in answer[2:]]
        self.assertEqual([answer[1] for answer in gets], [4096] * 7 + [left - 3])
        self.assertEqual(out, row[:len(out)])
        self.assertEqual(told[:2] + told[9:-1], [
            [0], [-5], pack_answer(row[:1024]), [1, len(out) - gets[-1][0], 7 * 4096], [0], [0, 65536], [-3]])

    def test_30000_numbers_packed(self):
        rows = [[(k * turn + k // 7) % 256 for k in range(1024)] for turn in range(29)] + [[7] * 244]
        calls = [pack(row) for row in rows]
        self.assertEqual(sum(map(len, calls)), 30000)
        self.assertEqual(ask(*calls), [pack_answer(row) for row in rows])

    def test_sixty_calls(self):
        self.assertEqual(answers([2] * 60), [3, 0, 0, 0] * 60)
        self.assertEqual(answers([0] * 60), [1, 0] * 60)
        self.assertEqual(answers([3] * 60), [1, -5] * 60)
        self.assertEqual(answers([4, 0] * 60), [1, -5] * 60)
        self.assertEqual(answers([5, 0] * 60), ([24, 23] + PACKED_NOTHING) * 60)

    def test_sixty_calls_of_all_kinds(self):
        made = packed(b"xy")
        calls = [pack(b"xy"), get(1, made), STATE, TOLD, prop(2), get(9, made[18:]), STATE, TOLD, prop(4), BEGIN]
        wanted = [[len(made)] + made, [1, 18, 120], [1, 1, 18], [0], [0, 2]]
        wanted += [[1, len(made) - 18, 121], [2, 2, len(made)], [0], [-3], [0]]
        self.assertEqual(ask(*calls * 6), wanted * 6)

    def test_nothing_is_printed_or_drawn_from_outside(self):
        code = (
            "import sys\n"
            "before = set(sys.modules)\n"
            "from rangestream.streams import answers\n"
            "answers([2, 0, 1, 9, 1, 7, 2, 3, 4, 0, 5, 2, 8, 9])\n"
            "new = [name for name in set(sys.modules) - before if name.split('.')[0] != 'rangestream']\n"
            "sys.exit(len(new))\n")
        done = subprocess.run([sys.executable, "-c", code], stdin=subprocess.DEVNULL, capture_output=True)
        self.assertEqual((done.returncode, done.stdout, done.stderr), (0, b"", b""))


if __name__ == "__main__":
    unittest.main()

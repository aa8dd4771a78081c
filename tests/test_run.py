"""The calls begin, get and state of the document's run, and how they are handed in and answered."""

import subprocess
import sys
import unittest

from rangestream.streams import answers
from tests.helper import BEGIN, PACKED_NOTHING, STATE, Packer, ask, get, mixed, packed


class DocumentRun(unittest.TestCase):
    def test_the_run(self):
        told = ask(
            get(1, []), STATE, get(9, PACKED_NOTHING), STATE, get(9, [1]),
            BEGIN, get(9, [225] * 18), STATE, get(9, [1]))
        self.assertEqual(told, [
            [0, 0], [0, 0, 0], [0, 23], [2, 0, 23], [0, 0],
            [0], [0, 18], [3, 0, 18], [-2]])

    def test_the_run_number_by_number(self):
        line = [1, 1, 0, 2, 1, 9, 23] + PACKED_NOTHING + [2, 1, 9, 1, 1, 0, 1, 9, 18] + [225] * 18 + [2, 1, 9, 1, 1]
        self.assertEqual(answers(line), [
            2, 0, 0, 3, 0, 0, 0, 2, 0, 23, 3, 2, 0, 23, 2, 0, 0,
            1, 0, 2, 0, 18, 3, 3, 0, 18, 1, -2])

    def test_the_packer_of_the_tests_packs_as_the_run_does(self):
        self.assertEqual(packed([]), PACKED_NOTHING)


class Interface(unittest.TestCase):
    def test_bytes_stand_behind_two_numbers(self):
        stream = packed(b"abc")
        self.assertEqual(answers([1, 8192, len(stream)] + stream), [5, 3, len(stream), 97, 98, 99])

    def test_whole_numbers_only(self):
        stream = packed(b"abc")
        given = answers([2, 0] + get(5, stream) + [2] + get(9, []) + [2])
        self.assertIs(type(given), list)
        self.assertEqual({type(number) for number in given}, {int})

    def test_what_is_handed_in_stays(self):
        line = get(5, packed(b"a stream")) + BEGIN + get(3, [225] * 30) + STATE
        before = list(line)
        answers(line)
        self.assertEqual(line, before)

    def test_what_is_given_back_is_new(self):
        line = get(50, packed(b"a stream"))
        first = answers(line)
        kept = list(first)
        first.clear()
        self.assertEqual(answers(line), kept)

    def test_nothing_is_kept_from_one_time_to_the_next(self):
        stream = mixed(Packer()).end().finished()
        half = get(300, stream[:40]) + STATE
        broken = get(9, [225] * 18) + STATE
        first = answers(half)
        answers(broken)
        self.assertEqual(answers(half), first)
        self.assertEqual(answers(STATE), [3, 0, 0, 0])

    def test_the_longest_line(self):
        row = [k * k * 13 % 256 ^ k // 3 % 256 for k in range(29000)]
        stream = packed(row)
        at, out, calls = 0, [], []
        for turn in range(7):
            calls.append(get(8192, stream[at:at + 4096]))
            at += 4096
        for answer in ask(*calls, STATE)[:-1]:
            out += answer[2:]
        self.assertGreater(len(out), 20000)
        self.assertEqual(out, row[:len(out)])

    def test_sixty_calls(self):
        self.assertEqual(answers([2] * 60), [3, 0, 0, 0] * 60)
        self.assertEqual(answers([0] * 60), [1, 0] * 60)

    def test_nothing_is_printed_or_drawn_from_outside(self):
        code = (
            "import sys\n"
            "before = set(sys.modules)\n"
            "from rangestream.streams import answers\n"
            "answers([2, 0, 1, 9, 1, 7, 2])\n"
            "new = [name for name in set(sys.modules) - before if name.split('.')[0] != 'rangestream']\n"
            "sys.exit(len(new))\n")
        done = subprocess.run([sys.executable, "-c", code], stdin=subprocess.DEVNULL, capture_output=True)
        self.assertEqual((done.returncode, done.stdout, done.stderr), (0, b"", b""))


if __name__ == "__main__":
    unittest.main()

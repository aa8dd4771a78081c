"""Streams made at random, sound and damaged, against the document's words as a slow model."""

import unittest
from random import Random

from tests.helper import BEGIN, HEAD_CALLS, STATE, Forecast, Model, Packer, ask, get, pack, pack_answer

LENGTHS = (2, 3, 4, 5, 9, 10, 17, 18, 100, 273)
ROOMS = (0, 1, 2, 3, 20, 50, 300, 8192, 8192, 8192, 8193)


def random_step(chance, packer):
    back = min(len(packer.out), packer.reach)
    kind = chance.randrange(10)
    if kind < 4 or back == 0:
        packer.literal(chance.choice((97, 98, chance.randrange(256))))
    elif kind < 7:
        distance = min(chance.randrange(back), chance.choice((3, 100, 65535)))
        if chance.randrange(40) == 0:
            distance = chance.choice((back, len(packer.out), packer.reach, chance.randrange(2 ** 32 - 1)))
        packer.copy(chance.choice(LENGTHS), distance)
    elif kind < 8:
        packer.one()
    else:
        packer.again(chance.randrange(4), chance.choice(LENGTHS))


def random_packed(chance):
    lc = chance.randrange(5)
    packer = Packer(lc, chance.randrange(5 - lc), chance.randrange(5), chance.choice((1, 3, 20, 4096, 65536)))
    for turn in range(chance.randrange(30)):
        random_step(chance, packer)
    told = chance.randrange(2) == 1
    if told:
        packer.size = max(0, len(packer.out) + chance.choice((0, 0, 0, -2, 2)))
    if not told or chance.randrange(8) == 0:
        packer.end()
    return packer.finished()


def random_stream(chance):
    stream = random_packed(chance)
    kind = chance.randrange(8)
    if kind == 0:
        stream[chance.randrange(18)] = chance.choice((0, 1, 255, chance.randrange(256)))
    elif kind == 1:
        stream[chance.randrange(14, len(stream))] = chance.randrange(256)
    elif kind == 2:
        del stream[chance.randrange(18, len(stream) + 1):]
    elif kind == 3:
        del stream[14:]
    behind = chance.choice((0, 3, 40))
    return stream + [chance.choice((255, chance.randrange(256))) for turn in range(behind)]


class RandomStreams(unittest.TestCase):
    def check_line(self, chance, seen):
        calls, wanted = [], []
        for turn in range(3):
            stream = random_stream(chance)
            model = Model(stream)
            forecast = Forecast(model.marks, model.out, model.head)
            most = chance.choice((2, 9, 200))
            for again in range(7):
                row = stream[forecast.taken:][:chance.randrange(most + 1)]
                room = chance.choice(ROOMS)
                calls += [get(room, row), STATE]
                wanted += [forecast.get(room, row), forecast.state()]
                if again % 3 == 2:
                    place = chance.randrange(5)
                    calls += [HEAD_CALLS[place], pack(row)]
                    wanted += [forecast.of_head(place), pack_answer(row)]
            calls.append(BEGIN)
            wanted.append([0])
            seen[forecast.verdict] = seen.get(forecast.verdict, 0) + 1
        self.assertEqual(ask(*calls), wanted)

    def test_lines(self):
        chance = Random(18)
        seen = {}
        for turn in range(500):
            self.check_line(chance, seen)
        self.assertGreater(min(seen[verdict] for verdict in ("more", "end", "damage")), 100)


if __name__ == "__main__":
    unittest.main()

"""The calls on a stream, handed in and answered as one list of whole numbers."""

from rangestream.packing import pack
from rangestream.unpacker import Unpacker

BEGIN = 0
GET = 1
STATE = 2
TOLD = 3
PROP = 4

# Of each call, by its number: how many whole numbers it has, and how many rows.
FORMS = ((0, 0), (1, 1), (0, 0), (0, 0), (1, 0), (0, 1))


def answers(calls):
    """Makes the calls on a new stream, one behind another, and answers each."""
    stream = Unpacker()
    answered = []
    for call in split_calls(calls):
        if call[0] == BEGIN:
            stream = Unpacker()
            answer = [0]
        else:
            answer = answer_call(stream, call)
        answered.append(len(answer))
        answered.extend(answer)
    return answered


def answer_call(stream, call):
    if call[0] == GET:
        return stream.get(call[1], call[2])
    if call[0] == STATE:
        return stream.state()
    if call[0] == TOLD:
        return stream.told()
    if call[0] == PROP:
        return stream.prop(call[1])
    return pack(call[1])


def split_calls(calls):
    """Each call as a list: its number, its whole numbers, its rows."""
    split = []
    place = 0
    while place < len(calls):
        form = FORMS[calls[place]]
        behind = place + 1 + form[0]
        call = calls[place:behind]
        for turn in range(form[1]):
            start = behind + 1
            behind = start + calls[behind]
            call.append(calls[start:behind])
        split.append(call)
        place = behind
    return split

"""Makes lines of calls out of plain arguments, and splits what is answered by call."""

import unittest

from parcelpasses.nodes import answers

TICK = [2]
WHOLE_MOST = 4294967295


def link(a, b, takes=1, begins=0, ends=1000, none=0):
    return [a, b, takes, none, begins, ends]


def start(n, me, links=()):
    numbers = [number for each in links for number in each]
    return [0, n, me, len(numbers)] + numbers


def put(to, end, data=()):
    return [1, to, end, len(data)] + list(data)


def ticks(count):
    return [TICK] * count


def line(calls):
    return [number for call in calls for number in call]


def split(told):
    parts = []
    place = 0
    while place < len(told):
        count = told[place]
        part = told[place + 1:place + 1 + count]
        assert len(part) == count, told
        parts.append(part)
        place += 1 + count
    return parts


def ask(*calls):
    parts = split(answers(line(calls)))
    assert len(parts) == len(calls), parts
    return parts


def parcel_bytes(source, to, number, end, leg, data=()):
    head = [1, source, to, len(data)]
    fours = [list(each.to_bytes(4, "little")) for each in (number, end, leg)]
    return head + fours[0] + fours[1] + fours[2] + list(data)


def sent(*messages):
    """What a tick answers that sends these (pass, bytes)."""
    told = [len(messages)]
    for number, message in messages:
        told += [number, len(message)] + message
    return told


def sent_briefly(told):
    """The (pass, source, number) of each message that a tick's answer tells."""
    found = []
    place = 1
    while place < len(told):
        size = told[place + 1]
        message = told[place + 2:place + 2 + size]
        assert len(message) == size, told
        found.append((told[place], message[1], int.from_bytes(bytes(message[4:8]), "little")))
        place += 2 + size
    assert len(found) == told[0], told
    return found


class LineTest(unittest.TestCase):
    """Tests that tell a line's answers, call by call."""

    maxDiff = None

    def check(self, *calls_and_answers):
        calls = [call for call, answer in calls_and_answers]
        expected = [answer for call, answer in calls_and_answers]
        self.assertEqual(ask(*calls), expected)

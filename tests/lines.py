"""Makes lines of calls out of plain arguments, and splits what is answered by call."""

import unittest

from parcelpasses.nodes import Line, answers

TICK = [2]
READ = [4]
STATE = [5]
WHOLE_MOST = 4294967295
COUNT_MOST = 2147483647


def link(a, b, takes=1, begins=0, ends=1000, none=0):
    return [a, b, takes, none, begins, ends]


def start(n, me, links=()):
    numbers = [number for each in links for number in each]
    return [0, n, me, len(numbers)] + numbers


def put(to, end, data=()):
    return [1, to, end, len(data)] + list(data)


def ticks(count):
    return [TICK] * count


def heard(number, message):
    return [3, number, len(message)] + list(message)


def line(calls):
    return [number for call in calls for number in call]


def split(told):
    parts = []
    place = 0
    while place < len(told):
        count = told[place]
        part = told[place + 1:place + 1 + count]
        assert len(part) == count, told
        parts.append(part)
        place += 1 + count
    return parts


def ask(*calls):
    parts = split(answers(line(calls)))
    assert len(parts) == len(calls), parts
    return parts


def parcel_bytes(source, to, number, end, leg, data=()):
    head = [1, source, to, len(data)]
    fours = [list(each.to_bytes(4, "little")) for each in (number, end, leg)]
    return head + fours[0] + fours[1] + fours[2] + list(data)


def kept_bytes(source, number, leg):
    return [2, source, 0, 0] + list(number.to_bytes(4, "little")) + list(leg.to_bytes(4, "little"))


def sent(*messages):
    """What a tick answers that sends these (pass, bytes)."""
    told = [len(messages)]
    for number, message in messages:
        told += [number, len(message)] + message
    return told


def kept(number, source, parcel_number, leg):
    """What nd_heard answers where kept is sent by the pass of that number."""
    return [0, number, 12] + kept_bytes(source, parcel_number, leg)


def messages_of(told):
    """The (pass, bytes) of each message that an answer tells behind its number."""
    found = []
    place = 1
    while place < len(told):
        size = told[place + 1]
        message = told[place + 2:place + 2 + size]
        assert len(message) == size, told
        found.append((told[place], message))
        place += 2 + size
    return found


def sent_briefly(told):
    """The (pass, source, number) of each message that a tick's answer tells."""
    found = [(number, message[1], int.from_bytes(bytes(message[4:8]), "little"))
             for number, message in messages_of(told)]
    assert len(found) == told[0], told
    return found


class Live:
    """A line that grows: each call is answered before the next one is known."""

    def __init__(self, *calls):
        self.line = Line([])
        for call in calls:
            self.ask(call)

    def ask(self, call):
        self.line.calls.extend(call)
        answer = self.line.answer_call()
        assert not self.line.has_more(), call
        return answer

    @property
    def node(self):
        return self.line.node


class LineTest(unittest.TestCase):
    """Tests that tell a line's answers, call by call."""

    maxDiff = None

    def check(self, *calls_and_answers):
        calls = [call for call, answer in calls_and_answers]
        expected = [answer for call, answer in calls_and_answers]
        self.assertEqual(ask(*calls), expected)

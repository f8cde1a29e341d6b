"""Whole lines of all six calls, held against the model."""

import random
import unittest

from lines import READ, STATE, TICK, LineTest, Live, ask, heard, kept_bytes, parcel_bytes, put, start
from model import Model, some_links


def some_data(source):
    return [source.randrange(256) for each in range(source.choice((0, 0, 1, 3, 48)))]


def some_parcel(source, model):
    origin = source.randrange(model.n)
    to = (origin + source.randrange(1, model.n)) % model.n
    end = max(0, model.time + source.choice((-1, 0, 1, 5, 15, 30)))
    return parcel_bytes(origin, to, source.randint(1, 4), end, source.randint(1, 4), some_data(source))


def some_kept(source, model):
    if model.held and source.random() < 0.6:
        each = source.choice(model.held)
        return kept_bytes(each["source"], each["number"], each["leg"] + source.choice((1, 1, 1, 2)))
    return kept_bytes(source.randrange(model.n), source.randint(1, 4), source.randint(1, 4))


def spoilt(source, message):
    """The message with one byte changed, or with one more or one less."""
    place = source.randrange(len(message))
    how = source.randrange(4)
    if how == 0:
        return message[:-1]
    if how == 1:
        return message + [source.randrange(256)]
    return message[:place] + [source.choice((0, 1, 2, 127, 128, 255))] + message[place + 1:]


def some_message(source, model):
    message = source.choice((some_parcel, some_parcel, some_kept))(source, model)
    return spoilt(source, message) if source.random() < 0.15 else message


def some_call(source, model):
    """A call, and what the model answers."""
    which = source.random()
    if which < 0.15:
        to = source.randrange(model.n + 1)
        end = model.time + source.choice((0, 1, 5, 15, 30))
        data = some_data(source)
        return put(to, end, data), model.put(to, end, data)
    if which < 0.5:
        number = source.randrange(len(model.links) + 1)
        message = some_message(source, model)
        return heard(number, message), model.heard(number, message)
    if which < 0.6:
        return READ, model.read()
    if which < 0.75:
        return STATE, model.state()
    return TICK, model.tick()


class WholeLines(LineTest):
    def line_like_model(self, source, n, length):
        me = source.randrange(n)
        links = some_links(source, n, source.randint(1, 7), source.choice((6, 12, 20, 60)))
        model = Model(n, me, links)
        calls, expected = [start(n, me, links)], [[0]]
        for each in range(length):
            call, answer = some_call(source, model)
            calls.append(call)
            expected.append(answer)
        self.assertEqual(ask(*calls), expected, calls)

    def test_small_plans(self):
        source = random.Random(3)
        for turn in range(300):
            self.line_like_model(source, source.randint(2, 4), 80)

    def test_long_lines(self):
        source = random.Random(4)
        for turn in range(5):
            self.line_like_model(source, 3, 999)

    def test_a_line_with_several_beginnings(self):
        source = random.Random(5)
        for turn in range(20):
            calls, expected = [], []
            for again in range(4):
                n = source.randint(2, 4)
                model = Model(n, source.randrange(n), some_links(source, n, 5, 12))
                calls.append(start(n, model.me, model.links))
                expected.append([0])
                for each in range(40):
                    call, answer = some_call(source, model)
                    calls.append(call)
                    expected.append(answer)
            self.assertEqual(ask(*calls), expected, calls)

    def test_a_line_that_grows_is_answered_like_a_whole_one(self):
        source = random.Random(6)
        model = Model(3, 1, some_links(source, 3, 5, 40))
        calls = [start(3, 1, model.links)] + [some_call(source, model)[0] for each in range(300)]
        live = Live()
        self.assertEqual([live.ask(call) for call in calls], ask(*calls))


if __name__ == "__main__":
    unittest.main()

"""Promise 6: nd_state."""

import unittest

from lines import READ, STATE, TICK, LineTest, ask, heard, kept_bytes, link, parcel_bytes, put, start, ticks
from parcelpasses.node import Node
from parcelpasses.plan import plan_of

BEGIN = start(3, 0, [link(0, 1, 1, 900)])


def comes(number, end=50, to=0):
    return heard(0, parcel_bytes(1, to, number, end, 1))


class State(LineTest):
    def states(self, *calls):
        """The four numbers behind each of these calls."""
        told = ask(BEGIN, STATE, *[each for call in calls for each in (call, STATE)])
        self.assertEqual({each[0] for each in told[1::2]}, {0})
        return [tuple(each[1:]) for each in told[3::2]]

    def test_at_first(self):
        self.check((BEGIN, [0]), (STATE, [0, 0, 0, 0, 0]), (STATE, [0, 0, 0, 0, 0]))

    def test_put(self):
        self.assertEqual(self.states(put(1, 9), put(0, 9), put(2, 9)), [(0, 1, 0, 0), (0, 1, 0, 0), (0, 2, 0, 0)])

    def test_tick(self):
        self.assertEqual(self.states(TICK, TICK, TICK), [(1, 0, 0, 0), (2, 0, 0, 0), (3, 0, 0, 0)])

    def test_heard_and_read(self):
        self.assertEqual(self.states(comes(1), comes(2, to=2), comes(3), comes(3), READ, READ, READ),
                         [(0, 0, 1, 1), (0, 1, 1, 1), (0, 1, 2, 2), (0, 1, 2, 2), (0, 1, 1, 2), (0, 1, 0, 2),
                          (0, 1, 0, 2)])

    def test_kept(self):
        self.assertEqual(self.states(put(1, 9), heard(0, kept_bytes(0, 1, 2)), heard(0, kept_bytes(0, 1, 1))),
                         [(0, 1, 0, 0), (0, 1, 0, 0), (0, 0, 0, 0)])

    def test_what_is_sent_is_held_still(self):
        told = ask(start(2, 0, [link(0, 1)]), put(1, 9), TICK, STATE)
        self.assertEqual(told[2][0], 1)
        self.assertEqual(told[3], [0, 1, 1, 0, 0])

    def test_a_tick_at_which_some_go(self):
        calls = [put(1, 1), put(1, 2), comes(1, 1), comes(2, 2), comes(3, 2), comes(4, 1, to=2), READ, TICK, TICK, TICK]
        self.assertEqual(self.states(*calls)[-4:], [(0, 3, 2, 3), (1, 3, 2, 3), (2, 1, 2, 2), (3, 0, 0, 0)])

    def test_refusals(self):
        calls = [put(1, 9), put(1, 0), heard(1, []), heard(0, []), start(1, 0)]
        self.assertEqual(self.states(*calls), [(0, 1, 0, 0)] * 5)

    def test_another_beginning(self):
        self.assertEqual(self.states(put(1, 9), comes(1), TICK, BEGIN)[-2:], [(1, 1, 1, 1), (0, 0, 0, 0)])

    def test_it_changes_nothing(self):
        calls = [put(1, 9), comes(1), comes(2, to=2), *ticks(2), READ]
        with_states = ask(BEGIN, *[each for call in calls for each in (call, STATE, STATE)])
        self.assertEqual(with_states[1::3], ask(BEGIN, *calls)[1:])

    def test_time_up_to_999(self):
        self.assertEqual(ask(BEGIN, *ticks(998), STATE)[-1], [0, 998, 0, 0, 0])

    def test_64_64_and_256(self):
        calls = [comes(number) for number in range(1, 65)]
        for first in (65, 129, 193):
            calls += [READ] * 64 + [comes(number) for number in range(first, first + 64)]
        told = ask(BEGIN, *calls, *[put(1, 9)] * 64, STATE)
        self.assertEqual(told[-1], [0, 0, 64, 64, 256])

    def test_at_a_million(self):
        node = Node(plan_of(2, link(0, 1)), 0)
        node.time = 999999
        self.assertEqual([node.tick(), node.state()], [[0], [0, 1000000, 0, 0, 0]])
        self.assertEqual([node.tick(), node.state()], [[-34], [0, 1000000, 0, 0, 0]])


if __name__ == "__main__":
    unittest.main()

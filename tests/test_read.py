"""Promise 5: nd_read."""

import unittest

from lines import READ, STATE, TICK, LineTest, ask, heard, kept, link, parcel_bytes, put, start, ticks

BEGIN = start(4, 0, [link(0, 1), link(2, 0)])


def comes(source, number, end=50, data=(), leg=1, by=0):
    return heard(by, parcel_bytes(source, 0, number, end, leg, data))


class Read(LineTest):
    def test_none_has_arrived(self):
        self.check((BEGIN, [0]), (READ, [0]), (READ, [0]), (STATE, [0, 0, 0, 0, 0]))

    def test_what_is_held_has_not_arrived(self):
        told = ask(BEGIN, put(1, 50, [6]), heard(0, parcel_bytes(1, 2, 7, 50, 1)), READ, STATE)
        self.assertEqual(told[-2:], [[0], [0, 0, 2, 0, 0]])

    def test_one(self):
        told = ask(BEGIN, comes(3, 70000, 1000000, [4, 0, 255]), READ, READ)
        self.assertEqual(told[2:], [[4, 3, 70000, 1000000, 4, 0, 255], [0]])

    def test_0_bytes(self):
        self.assertEqual(ask(BEGIN, comes(3, 7), READ)[-1], [1, 3, 7, 50])

    def test_48_bytes(self):
        data = list(range(200, 248))
        self.assertEqual(ask(BEGIN, comes(3, 7, 50, data), READ)[-1], [49, 3, 7, 50] + data)

    def test_in_the_order_in_which_they_came(self):
        told = ask(BEGIN, comes(3, 9, 60, [1]), comes(1, 5, 90, [2], by=1), comes(2, 1, 20, [3]), comes(1, 4, 10, [4]),
                   READ, READ, READ, READ, READ)
        self.assertEqual(told[5:], [[2, 3, 9, 60, 1], [2, 1, 5, 90, 2], [2, 2, 1, 20, 3], [2, 1, 4, 10, 4], [0]])

    def test_one_that_comes_again_keeps_its_place(self):
        told = ask(BEGIN, comes(3, 9), comes(1, 5), comes(3, 9, leg=7), READ, READ, READ)
        self.assertEqual(told[4:], [[1, 3, 9, 50], [1, 1, 5, 50], [0]])

    def test_those_that_come_between(self):
        told = ask(BEGIN, comes(1, 1), comes(1, 2), READ, comes(1, 3), READ, READ, READ, comes(1, 4), READ)
        self.assertEqual([told[k] for k in (3, 5, 6, 7, 9)],
                         [[1, 1, 1, 50], [1, 1, 2, 50], [1, 1, 3, 50], [0], [1, 1, 4, 50]])

    def test_64_of_them(self):
        told = ask(BEGIN, *[comes(1, number) for number in range(64, 0, -1)], *[READ] * 65)
        self.assertEqual(told[65:], [[1, 1, number, 50] for number in range(64, 0, -1)] + [[0]])

    def test_it_arrived_no_more_and_stays_known(self):
        self.check((BEGIN, [0]), (comes(1, 1), kept(0, 1, 1, 1)), (STATE, [0, 0, 0, 1, 1]), (READ, [1, 1, 1, 50]),
                   (STATE, [0, 0, 0, 0, 1]), (comes(1, 1), kept(0, 1, 1, 1)), (READ, [0]), (STATE, [0, 0, 0, 0, 1]))

    def test_it_is_read_once_till_its_end_and_behind_it(self):
        told = ask(BEGIN, comes(1, 1, 3), READ, *ticks(3), comes(1, 1, 3), READ, TICK, STATE, comes(1, 1, 3), READ)
        self.assertEqual(told[2], [1, 1, 1, 3])
        self.assertEqual(told[6:], [kept(0, 1, 1, 1), [0], [0], [0, 4, 0, 0, 0], [0], [0]])

    def test_at_its_end_and_not_behind_it(self):
        begin = [BEGIN, comes(1, 1, 3, [7]), comes(1, 2, 4, [8])]
        self.assertEqual(ask(*begin, *ticks(3), READ)[-1], [2, 1, 1, 3, 7])
        self.assertEqual(ask(*begin, *ticks(4), READ)[-1], [2, 1, 2, 4, 8])
        self.assertEqual(ask(*begin, *ticks(5), READ)[-1], [0])

    def test_the_order_stays_when_some_go(self):
        told = ask(BEGIN, comes(1, 9), comes(1, 1, 1), comes(1, 5), comes(1, 2, 1), comes(1, 7), TICK, TICK,
                   *[READ] * 4)
        self.assertEqual(told[-4:], [[1, 1, 9, 50], [1, 1, 5, 50], [1, 1, 7, 50], [0]])


if __name__ == "__main__":
    unittest.main()

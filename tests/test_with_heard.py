"""Promises 1 to 3 where parcels of other sources were heard."""

import unittest

from lines import (
    READ, STATE, TICK, LineTest, ask, heard, kept, kept_bytes, link, parcel_bytes, put, sent, sent_briefly, start,
    ticks)

# Pass 0 brings the parcels, pass 1 takes them on.
LINKS = [link(0, 1, 9), link(0, 3, 4)]
BEGIN = start(4, 0, LINKS)


def comes(source, number, end=50, to=3, leg=1, data=()):
    return heard(0, parcel_bytes(source, to, number, end, leg, data))


class Start(LineTest):
    def test_all_is_new_again(self):
        told = ask(BEGIN, put(3, 50), comes(1, 1), comes(1, 2, to=0), comes(1, 3, to=0), READ, TICK, STATE, BEGIN,
                   STATE, READ, TICK)
        self.assertEqual(told[7:], [[0, 1, 2, 1, 2], [0], [0, 0, 0, 0, 0], [0], [0]])

    def test_what_was_known_arrives_anew(self):
        self.check((BEGIN, [0]), (comes(1, 2, to=0), kept(0, 1, 2, 1)), (READ, [1, 1, 2, 50]), (BEGIN, [0]),
                   (comes(1, 2, to=0), kept(0, 1, 2, 1)), (READ, [1, 1, 2, 50]))

    def test_its_own_of_before_are_not_its_own_any_more(self):
        self.check((BEGIN, [0]), (put(3, 50), [1]), (BEGIN, [0]), (comes(0, 1), [0]), (STATE, [0, 0, 0, 0, 0]),
                   (put(3, 60), [1]), (TICK, sent((1, parcel_bytes(0, 3, 1, 60, 1)))))

    def test_there_is_room_again(self):
        full = [comes(1, number) for number in range(1, 65)] + [comes(1, number, to=0) for number in range(1, 65)]
        told = ask(BEGIN, *full, BEGIN, STATE, comes(2, 1), comes(2, 2, to=0), STATE)
        self.assertEqual(told[-4:], [[0, 0, 0, 0, 0], kept(0, 2, 1, 1), kept(0, 2, 2, 1), [0, 0, 1, 1, 1]])

    def test_a_refused_one_keeps_all(self):
        told = ask(BEGIN, put(3, 50), comes(1, 1), comes(1, 2, to=0), comes(1, 3, to=0), READ, start(4, 4, LINKS),
                   STATE, READ, comes(1, 2, to=0), READ)
        self.assertEqual(told[6:], [[-22], [0, 0, 2, 1, 2], [1, 1, 3, 50], kept(0, 1, 2, 1), [0]])

    def test_the_new_plan_tells_what_a_message_is(self):
        self.check((BEGIN, [0]), (start(3, 0, [link(0, 1), link(1, 2)]), [0]), (comes(1, 1, to=3), [-71]),
                   (heard(1, parcel_bytes(1, 2, 1, 50, 1)), [-22]), (comes(1, 1, to=2), kept(0, 1, 1, 1)))


class Put(LineTest):
    def test_64_of_others_are_held(self):
        told = ask(BEGIN, *[comes(1, number) for number in range(1, 64)], put(3, 50), put(3, 50), STATE)
        self.assertEqual(told[-3:], [[1], [-28], [0, 0, 64, 0, 0]])
        told = ask(BEGIN, *[comes(1, number) for number in range(1, 65)], put(3, 50), put(0, 50), STATE)
        self.assertEqual(told[-3:], [[-28], [-22], [0, 0, 64, 0, 0]])

    def test_a_refusal_takes_no_number(self):
        told = ask(BEGIN, *[comes(1, number) for number in range(1, 65)], put(3, 50), comes(0, 1),
                   heard(0, kept_bytes(1, 9, 2)), put(3, 50))
        self.assertEqual(told[-4:], [[-28], [0], [0], [1]])

    def test_there_is_room_behind_kept(self):
        told = ask(BEGIN, *[put(3, 50)] * 64, put(3, 50), heard(0, kept_bytes(0, 5, 1)), put(3, 50), put(3, 50))
        self.assertEqual(told[-4:], [[-28], [0], [65], [-28]])

    def test_those_arrived_and_known_take_no_room(self):
        told = ask(BEGIN, *[comes(1, number, to=0) for number in range(1, 65)], *[put(3, 50)] * 65)
        self.assertEqual(told[-2:], [[64], [-28]])

    def test_a_parcel_of_another_source_with_the_same_number(self):
        self.check((BEGIN, [0]), (comes(1, 1), kept(0, 1, 1, 1)), (put(3, 50), [1]), (STATE, [0, 0, 2, 0, 0]))


class Tick(LineTest):
    def order(self, *calls):
        """The (source, number) of what is sent at the next ticks, one by one."""
        told = ask(BEGIN, *calls, *ticks(len(calls)))
        return [each[1:] for part in told[1 + len(calls):] for each in sent_briefly(part)]

    def test_the_lesser_end_is_before(self):
        self.assertEqual(self.order(comes(1, 5, 40), put(3, 41), comes(2, 9, 39), comes(1, 2, 42)),
                         [(2, 9), (1, 5), (0, 1), (1, 2)])

    def test_the_lesser_source_is_before_of_like_ends(self):
        self.assertEqual(self.order(comes(2, 1), comes(1, 9), put(3, 50), comes(1, 8)),
                         [(0, 1), (1, 8), (1, 9), (2, 1)])

    def test_the_lesser_number_is_before_of_like_sources(self):
        self.assertEqual(self.order(comes(1, 256), comes(1, 10), comes(1, 9), comes(1, 70000)),
                         [(1, 9), (1, 10), (1, 256), (1, 70000)])

    def test_the_leg_does_not_count_there(self):
        self.assertEqual(self.order(comes(1, 2, leg=1), comes(1, 1, leg=9)), [(1, 1), (1, 2)])

    def test_one_leg_more_than_the_greater(self):
        for legs, leg in (((1, 4), 5), ((4, 1), 5), ((3, 3), 4), ((2, 9, 5), 10)):
            told = ask(BEGIN, *[comes(1, 1, leg=each, data=[6]) for each in legs], TICK)
            self.assertEqual(told[-1], sent((1, parcel_bytes(1, 3, 1, 50, leg, [6]))))

    def test_it_waits_like_ones_own(self):
        told = ask(BEGIN, comes(1, 1), *ticks(9))
        self.assertEqual([each[0] for each in told[2:]], [1, 0, 0, 0, 0, 0, 0, 0, 1])

    def test_back_by_the_pass_by_which_it_came(self):
        told = ask(BEGIN, heard(1, parcel_bytes(1, 3, 7, 50, 2)), TICK)
        self.assertEqual(told[1:], [kept(1, 1, 7, 2), sent((1, parcel_bytes(1, 3, 7, 50, 3)))])

    def test_its_own_that_came_back_with_a_greater_leg(self):
        self.check((BEGIN, [0]), (put(3, 50), [1]), (TICK, sent((1, parcel_bytes(0, 3, 1, 50, 1)))),
                   (comes(0, 1, leg=2), kept(0, 0, 1, 2)), *[(TICK, [0])] * 7,
                   (TICK, sent((1, parcel_bytes(0, 3, 1, 50, 3)))))

    def test_the_way_is_asked_for_from_where_it_is_now(self):
        # Node 1 got it late: pass 1 is over, pass 2 is left.
        links = [link(0, 1), link(1, 2, 1, 0, 5), link(1, 2, 30)]
        message = parcel_bytes(0, 2, 1, 50, 1)
        told = ask(start(3, 1, links), heard(0, message), TICK)
        self.assertEqual(sent_briefly(told[-1]), [(1, 0, 1)])
        told = ask(start(3, 1, links), *ticks(4), heard(0, message), TICK)
        self.assertEqual(sent_briefly(told[-1]), [(2, 0, 1)])

    def test_all_whose_end_is_below_the_time_goes(self):
        told = ask(start(4, 0, [link(0, 1)]), comes(1, 1, 2), comes(1, 2, 3), comes(1, 3, 2, to=0),
                   comes(1, 4, 3, to=0), comes(2, 5, 2, to=0), READ, TICK, TICK, STATE, TICK, STATE, READ,
                   comes(1, 4, 3, to=0), READ, TICK, STATE)
        self.assertEqual(told[6], [1, 1, 3, 2])
        self.assertEqual(told[9:], [[0, 2, 2, 2, 3], [0], [0, 3, 1, 1, 1], [1, 1, 4, 3], kept(0, 1, 4, 1), [0], [0],
                                    [0, 4, 0, 0, 0]])

    def test_they_go_before_anything_is_sent(self):
        told = ask(start(4, 0, [link(0, 1, 1, 0, 9), link(0, 3, 1, 3, 9)]), comes(1, 1, 2), comes(1, 2, 9), *ticks(3))
        self.assertEqual(told[-1], sent((1, parcel_bytes(1, 3, 2, 9, 2))))

    def test_nothing_is_sent_for_those_that_arrived(self):
        told = ask(start(4, 0, LINKS), comes(1, 1, to=0), TICK, TICK)
        self.assertEqual(told[-2:], [[0], [0]])


if __name__ == "__main__":
    unittest.main()

"""Promise 4: nd_heard."""

import unittest

from lines import (
    COUNT_MOST, READ, STATE, TICK, WHOLE_MOST, LineTest, ask, heard, kept, kept_bytes, link, parcel_bytes, put,
    sent, start, ticks)
from parcelpasses.node import Node
from parcelpasses.plan import plan_of

# Node 0 has the passes 0 and 2 of these; 2 isn't open before 5 and from 9 on.
LINKS = [link(0, 1), link(1, 2), link(2, 0, 3, 5, 9)]
BEGIN = start(4, 0, LINKS)
# One to this node, and one to another.
HERE = parcel_bytes(1, 0, 7, 50, 3, [8, 9])
ON = parcel_bytes(1, 2, 7, 50, 3, [8, 9])


def ones(to, count, first=1, source=1, end=50, leg=1):
    """So many calls that bring parcels to that node, with rising numbers."""
    return [heard(0, parcel_bytes(source, to, number, end, leg)) for number in range(first, first + count)]


class Passes(LineTest):
    def test_one_of_this_nodes(self):
        for me, number in ((0, 0), (0, 2), (1, 0), (1, 1), (2, 1), (2, 2)):
            told = ask(start(4, me, LINKS), heard(number, parcel_bytes(3, me, 7, 50, 3)))
            self.assertEqual(told[1][0], 0)

    def test_there_is_no_such_pass(self):
        for number in (3, 4, 255, WHOLE_MOST):
            self.check((BEGIN, [0]), (heard(number, HERE), [-22]))
        self.check((start(4, 0), [0]), (heard(0, HERE), [-22]))

    def test_the_last_of_128(self):
        begin = start(2, 0, [link(0, 1)] * 128)
        message = parcel_bytes(1, 0, 7, 50, 3)
        self.check((begin, [0]), (heard(128, message), [-22]), (heard(127, message), kept(127, 1, 7, 3)))

    def test_it_is_none_of_this_nodes(self):
        for me, number in ((0, 1), (1, 2), (2, 0), (3, 0), (3, 1), (3, 2)):
            self.check((start(4, me, LINKS), [0]), (heard(number, parcel_bytes(3 - me, me, 7, 50, 3)), [-22]))

    def test_it_is_told_before_what_is_no_message(self):
        for message in ([], [0] * 16, [9] * 80):
            self.check((BEGIN, [0]), (heard(1, message), [-22]), (heard(3, message), [-22]),
                       (heard(0, message), [-71]))

    def test_a_pass_that_is_not_open_is_one(self):
        self.check((BEGIN, [0]), (heard(2, HERE), [0]), (STATE, [0, 0, 0, 1, 1]))


class MessageTest(LineTest):
    def is_message(self, message, begin=BEGIN):
        self.assertEqual(ask(begin, heard(0, message))[1][0], 0, message)

    def is_none(self, message, begin=BEGIN):
        self.assertEqual(ask(begin, heard(0, message))[1], [-71], message)


class IsParcel(MessageTest):
    def test_how_many_bytes_it_has(self):
        for count in (0, 1, 2, 47, 48):
            self.is_message(parcel_bytes(1, 2, 7, 50, 3, [5] * count))
        for count in (49, 50, 64):
            self.is_none(parcel_bytes(1, 2, 7, 50, 3, [5] * count))

    def test_as_many_bytes_as_it_says(self):
        whole = parcel_bytes(1, 2, 7, 50, 3, [5] * 20)
        for said in (0, 19, 21, 48, 49, 255):
            self.is_none(whole[:3] + [said] + whole[4:])
        self.is_none(whole[:-1])
        self.is_none(whole + [5])
        self.is_none(whole + [5] * 44)

    def test_no_byte_at_all_and_too_few(self):
        whole = parcel_bytes(1, 2, 7, 50, 3)
        self.is_message(whole)
        for size in range(16):
            self.is_none(whole[:size])
        self.is_none(whole + [0])

    def test_a_longer_one_says_so(self):
        # Were the length counted with the head, this would be one.
        whole = parcel_bytes(1, 2, 7, 50, 3)
        self.is_none(whole[:3] + [16] + whole[4:])

    def test_its_first_byte(self):
        for first in (0, 2, 3, 129, 255):
            self.is_none([first] + ON[1:])
            self.is_none([first] + parcel_bytes(1, 2, 7, 50, 3)[1:])

    def test_source_is_a_node(self):
        for source in (0, 1, 3):
            self.is_message(parcel_bytes(source, 2, 7, 50, 3))
        for source in (4, 5, 255):
            self.is_none(parcel_bytes(source, 2, 7, 50, 3))

    def test_to_is_a_node(self):
        for to in (0, 2, 3):
            self.is_message(parcel_bytes(1, to, 7, 50, 3))
        for to in (4, 5, 255):
            self.is_none(parcel_bytes(1, to, 7, 50, 3))

    def test_of_32_nodes(self):
        begin = start(32, 0, LINKS)
        self.is_message(parcel_bytes(31, 30, 7, 50, 3), begin)
        self.is_message(parcel_bytes(30, 31, 7, 50, 3), begin)
        self.is_none(parcel_bytes(32, 30, 7, 50, 3), begin)
        self.is_none(parcel_bytes(30, 32, 7, 50, 3), begin)

    def test_source_and_to_differ(self):
        for node in (0, 1, 2, 3):
            self.is_none(parcel_bytes(node, node, 7, 50, 3))

    def test_its_end(self):
        for end in (0, 1, 999999, 1000000):
            self.is_message(parcel_bytes(1, 2, 7, end, 3))
        for end in (1000001, 1 << 24, 1 << 31, WHOLE_MOST):
            self.is_none(parcel_bytes(1, 2, 7, end, 3))

    def test_its_number(self):
        for number in (1, 2, 1 << 8, 1 << 24, COUNT_MOST):
            self.is_message(parcel_bytes(1, 2, number, 50, 3))
        for number in (0, COUNT_MOST + 1, COUNT_MOST + 2, WHOLE_MOST):
            self.is_none(parcel_bytes(1, 2, number, 50, 3))

    def test_its_leg(self):
        for leg in (1, 2, 1 << 8, 1 << 24, COUNT_MOST):
            self.is_message(parcel_bytes(1, 2, 7, 50, leg))
        for leg in (0, COUNT_MOST + 1, COUNT_MOST + 2, WHOLE_MOST):
            self.is_none(parcel_bytes(1, 2, 7, 50, leg))

    def test_one_that_would_do_nothing_is_held_to_the_same(self):
        late = [BEGIN] + ticks(9)
        self.assertEqual(ask(*late, heard(0, parcel_bytes(1, 2, 7, 8, 3)))[-1], [0])
        for wrong in (parcel_bytes(1, 4, 7, 8, 3), parcel_bytes(1, 2, 0, 8, 3), parcel_bytes(1, 2, 7, 8, 0)):
            self.assertEqual(ask(*late, heard(0, wrong))[-1], [-71])


class IsKept(MessageTest):
    def test_its_length(self):
        whole = kept_bytes(1, 7, 3)
        self.is_message(whole)
        for size in range(12):
            self.is_none(whole[:size])
        for more in (1, 4, 48, 68):
            self.is_none(whole + [0] * more)

    def test_its_first_byte(self):
        for first in (0, 1, 3, 130, 255):
            self.is_none([first] + kept_bytes(1, 7, 3)[1:])

    def test_source_is_a_node(self):
        for source in (0, 1, 2, 3):
            self.is_message(kept_bytes(source, 7, 3))
        for source in (4, 5, 255):
            self.is_none(kept_bytes(source, 7, 3))
        self.is_message(kept_bytes(31, 7, 3), start(32, 0, LINKS))
        self.is_none(kept_bytes(32, 7, 3), start(32, 0, LINKS))

    def test_its_two_zeros(self):
        whole = kept_bytes(1, 7, 3)
        for wrong in (1, 2, 128, 255):
            self.is_none(whole[:2] + [wrong] + whole[3:])
            self.is_none(whole[:3] + [wrong] + whole[4:])

    def test_its_number(self):
        for number in (1, 1 << 8, 1 << 24, COUNT_MOST):
            self.is_message(kept_bytes(1, number, 3))
        for number in (0, COUNT_MOST + 1, WHOLE_MOST):
            self.is_none(kept_bytes(1, number, 3))

    def test_its_leg(self):
        for leg in (1, 1 << 8, 1 << 24, COUNT_MOST):
            self.is_message(kept_bytes(1, 7, leg))
        for leg in (0, COUNT_MOST + 1, WHOLE_MOST):
            self.is_none(kept_bytes(1, 7, leg))


class Refusals(LineTest):
    def test_they_change_nothing(self):
        begin = [start(4, 0, [link(0, 1, 1, 3), link(1, 2)]), put(1, 40, [6]), *ones(0, 2), *ones(2, 2), TICK]
        behind = [STATE, put(1, 60), TICK, TICK, READ, READ, READ, STATE, TICK, TICK]
        refused = [heard(1, HERE), heard(2, HERE), heard(1, kept_bytes(0, 1, 1)), heard(2, kept_bytes(0, 1, 1)),
                   heard(0, HERE + [0]), heard(0, kept_bytes(0, 1, 1) + [0]), heard(0, [2] + HERE[1:]),
                   heard(0, parcel_bytes(1, 0, 9, 1000001, 1)), heard(0, parcel_bytes(1, 2, 1, 50, COUNT_MOST + 1)),
                   heard(0, kept_bytes(0, 1, 1)[:3] + [1] + kept_bytes(0, 1, 1)[4:])]
        told = ask(*begin, *refused, *behind)
        self.assertEqual(told[len(begin):len(begin) + len(refused)], [[-22]] * 4 + [[-71]] * 6)
        self.assertEqual(told[len(begin) + len(refused):], ask(*begin, *behind)[len(begin):])


class Nothing(LineTest):
    def test_its_end_is_below_the_time(self):
        for to in (0, 2):
            told = ask(BEGIN, *ticks(5), heard(0, parcel_bytes(1, to, 7, 4, 3)), STATE)
            self.assertEqual(told[-2:], [[0], [0, 5, 0, 0, 0]])

    def test_its_end_is_the_time(self):
        for to, state in ((0, [0, 5, 0, 1, 1]), (2, [0, 5, 1, 0, 0])):
            told = ask(BEGIN, *ticks(5), heard(0, parcel_bytes(1, to, 7, 5, 3)), STATE)
            self.assertEqual(told[-2:], [kept(0, 1, 7, 3), state])

    def test_its_end_and_the_time_are_0(self):
        self.check((BEGIN, [0]), (heard(0, parcel_bytes(1, 2, 7, 0, 3)), kept(0, 1, 7, 3)),
                   (STATE, [0, 0, 1, 0, 0]), (TICK, [0]), (STATE, [0, 1, 0, 0, 0]))

    def test_one_held_or_known_whose_message_tells_a_lesser_end(self):
        # Below the time: nothing, so no kept, and the leg stays.
        message = parcel_bytes(1, 3, 7, 50, 1)
        told = ask(start(4, 0, [link(0, 1), link(0, 3, 1, 7, 9)]), heard(0, message), *ticks(6),
                   heard(0, parcel_bytes(1, 3, 7, 5, 9)), TICK)
        self.assertEqual(told[-2:], [[0], sent((1, parcel_bytes(1, 3, 7, 50, 2)))])
        told = ask(BEGIN, heard(0, HERE), *ticks(6), heard(0, parcel_bytes(1, 0, 7, 5, 3)))
        self.assertEqual(told[-1], [0])

    def test_its_own_number_was_not_put_yet(self):
        self.check((BEGIN, [0]), (heard(0, parcel_bytes(0, 2, 1, 50, 3)), [0]), (STATE, [0, 0, 0, 0, 0]),
                   (put(1, 50), [1]), (put(1, 50), [2]), (heard(0, parcel_bytes(0, 2, 3, 50, 3)), [0]),
                   (heard(0, parcel_bytes(0, 2, COUNT_MOST, 50, 3)), [0]), (STATE, [0, 0, 2, 0, 0]))

    def test_its_own_number_was_put(self):
        self.check((BEGIN, [0]), (put(1, 50), [1]), (put(1, 50), [2]),
                   (heard(0, parcel_bytes(0, 1, 2, 50, 4)), kept(0, 0, 2, 4)),
                   (heard(0, parcel_bytes(0, 1, 1, 50, 4)), kept(0, 0, 1, 4)), (STATE, [0, 0, 2, 0, 0]))

    def test_its_own_comes_back_behind_kept(self):
        self.check((BEGIN, [0]), (put(1, 50, [6]), [1]), (heard(0, kept_bytes(0, 1, 1)), [0]),
                   (STATE, [0, 0, 0, 0, 0]), (heard(0, parcel_bytes(0, 1, 1, 50, 4, [6])), kept(0, 0, 1, 4)),
                   (STATE, [0, 0, 1, 0, 0]), (TICK, sent((0, parcel_bytes(0, 1, 1, 50, 5, [6])))))

    def test_how_many_were_put_and_not_how_many_are_held(self):
        self.check((BEGIN, [0]), (put(1, 1), [1]), (put(1, 1), [2]), (TICK, [0]), (TICK, [0]),
                   (STATE, [0, 2, 0, 0, 0]), (heard(0, parcel_bytes(0, 1, 2, 50, 4)), kept(0, 0, 2, 4)),
                   (heard(0, parcel_bytes(0, 1, 3, 50, 4)), [0]), (STATE, [0, 2, 1, 0, 0]))

    def test_only_of_its_own_numbers(self):
        self.check((BEGIN, [0]), (heard(0, parcel_bytes(1, 2, COUNT_MOST, 50, 3)), kept(0, 1, COUNT_MOST, 3)),
                   (heard(0, parcel_bytes(3, 0, COUNT_MOST, 50, 3)), kept(0, 3, COUNT_MOST, 3)),
                   (STATE, [0, 0, 1, 1, 1]))


class ToThisNode(LineTest):
    def test_it_arrives_and_is_known(self):
        self.check((BEGIN, [0]), (heard(0, HERE), kept(0, 1, 7, 3)), (STATE, [0, 0, 0, 1, 1]),
                   (READ, [3, 1, 7, 50, 8, 9]))

    def test_one_that_is_known_arrives_no_more_and_kept_is_sent(self):
        self.check((BEGIN, [0]), (heard(0, HERE), kept(0, 1, 7, 3)), (heard(0, HERE), kept(0, 1, 7, 3)),
                   (STATE, [0, 0, 0, 1, 1]), (READ, [3, 1, 7, 50, 8, 9]), (heard(0, HERE), kept(0, 1, 7, 3)),
                   (STATE, [0, 0, 0, 0, 1]), (READ, [0]))

    def test_one_that_is_known_with_another_leg(self):
        self.check((BEGIN, [0]), (heard(0, HERE), kept(0, 1, 7, 3)),
                   (heard(0, parcel_bytes(1, 0, 7, 50, 9)), kept(0, 1, 7, 9)),
                   (heard(0, parcel_bytes(1, 0, 7, 50, 1)), kept(0, 1, 7, 1)), (STATE, [0, 0, 0, 1, 1]))

    def test_source_and_number_tell_which_one_it_is(self):
        self.check((BEGIN, [0]), (heard(0, HERE), kept(0, 1, 7, 3)),
                   (heard(0, parcel_bytes(2, 0, 7, 50, 3)), kept(0, 2, 7, 3)),
                   (heard(0, parcel_bytes(1, 0, 8, 50, 3)), kept(0, 1, 8, 3)), (STATE, [0, 0, 0, 3, 3]))

    def test_64_have_arrived(self):
        told = ask(BEGIN, *ones(0, 63), *ones(0, 2, 64), STATE, *ones(0, 1, 64), *ones(2, 1, 65), READ,
                   *ones(0, 2, 65), STATE)
        self.assertEqual(told[64:], [kept(0, 1, 64, 1), [0], [0, 0, 0, 64, 64], kept(0, 1, 64, 1), kept(0, 1, 65, 1),
                                     [1, 1, 1, 50], kept(0, 1, 65, 1), [0], [0, 0, 1, 64, 65]])

    def known_256(self):
        calls = [BEGIN]
        for first in (1, 65, 129, 193):
            calls += ones(0, 64, first, end=50 if first < 193 else 3) + [READ] * 64
        return calls

    def test_256_are_known(self):
        told = ask(*self.known_256(), STATE, *ones(0, 1, 257), *ones(0, 2, 256, end=3), STATE)
        self.assertEqual(told[-5:], [[0, 0, 0, 0, 256], [0], kept(0, 1, 256, 1), [0], [0, 0, 0, 0, 256]])

    def test_255_are_known(self):
        calls = [call for call in self.known_256() if call != ones(0, 1, 200, end=3)[0]]
        told = ask(*calls, STATE, *ones(0, 2, 257), STATE)
        self.assertEqual(told[-4:], [[0, 0, 0, 0, 255], kept(0, 1, 257, 1), [0], [0, 0, 0, 1, 256]])

    def test_known_ones_make_room_behind_their_end(self):
        told = ask(*self.known_256(), *ticks(3), *ones(0, 1, 257), TICK, STATE, *ones(0, 1, 257), STATE)
        self.assertEqual(told[-5:], [[0], [0], [0, 4, 0, 0, 192], kept(0, 1, 257, 1), [0, 4, 0, 1, 193]])

    def test_64_held_do_not_stand_in_its_way(self):
        told = ask(BEGIN, *[put(1, 50)] * 64, heard(0, HERE), STATE)
        self.assertEqual(told[-2:], [kept(0, 1, 7, 3), [0, 0, 64, 1, 1]])


class ToAnother(LineTest):
    def begin_with(self, leg):
        """Node 0, that can send by pass 1 alone, holds one with that leg."""
        return [start(4, 0, [link(0, 1), link(0, 3, 5)]), heard(0, parcel_bytes(1, 3, 7, 50, leg, [8, 9]))]

    def sent_with(self, leg):
        return sent((1, parcel_bytes(1, 3, 7, 50, leg, [8, 9])))

    def test_it_is_held_with_that_leg_and_does_not_wait(self):
        for leg in (1, 3, 300):
            told = ask(*self.begin_with(leg), STATE, TICK)
            self.assertEqual(told[1:], [kept(0, 1, 7, leg), [0, 0, 1, 0, 0], self.sent_with(leg + 1)])

    def test_it_does_not_wait_at_any_time(self):
        told = ask(start(4, 0, [link(0, 1), link(0, 3, 5)]), *ticks(9), heard(0, parcel_bytes(1, 3, 7, 50, 1)), TICK)
        self.assertEqual(told[-1], sent((1, parcel_bytes(1, 3, 7, 50, 2))))

    def test_the_greater_leg_of_one_that_is_held(self):
        for leg, greater in ((1, 5), (4, 5), (5, 5), (6, 6), (70000, 70000)):
            told = ask(*self.begin_with(5), heard(0, parcel_bytes(1, 3, 7, 50, leg, [8, 9])), STATE, TICK)
            self.assertEqual(told[2:], [kept(0, 1, 7, leg), [0, 0, 1, 0, 0], self.sent_with(greater + 1)])

    def test_one_of_its_own_that_is_held(self):
        self.check((start(4, 0, [link(0, 1), link(0, 3)]), [0]), (put(3, 50, [6]), [1]),
                   (heard(0, parcel_bytes(0, 3, 1, 50, 2, [6])), kept(0, 0, 1, 2)), (STATE, [0, 0, 1, 0, 0]),
                   (TICK, sent((1, parcel_bytes(0, 3, 1, 50, 3, [6])))))

    def test_one_that_is_held_goes_on_waiting(self):
        told = ask(*self.begin_with(1), TICK, heard(0, parcel_bytes(1, 3, 7, 50, 4, [8, 9])), *ticks(10))
        self.assertEqual(told[2:], [self.sent_with(2), kept(0, 1, 7, 4)] + [[0]] * 9 + [self.sent_with(5)])

    def test_one_that_went_and_came_back_does_not_wait(self):
        told = ask(*self.begin_with(1), TICK, heard(1, kept_bytes(1, 7, 2)), STATE,
                   heard(0, parcel_bytes(1, 3, 7, 50, 4, [8, 9])), TICK)
        self.assertEqual(told[2:], [self.sent_with(2), [0], [0, 1, 0, 0, 0], kept(0, 1, 7, 4), self.sent_with(5)])

    def test_source_and_number_tell_which_one_it_is(self):
        told = ask(*self.begin_with(1), heard(0, parcel_bytes(2, 3, 7, 50, 9)), heard(0, parcel_bytes(1, 3, 8, 50, 9)),
                   STATE, TICK)
        self.assertEqual(told[2:], [kept(0, 2, 7, 9), kept(0, 1, 8, 9), [0, 0, 3, 0, 0], self.sent_with(2)])

    def test_of_one_that_is_held_only_the_leg_changes(self):
        told = ask(*self.begin_with(1), heard(0, parcel_bytes(1, 2, 7, 40, 2, [5])), STATE, TICK)
        self.assertEqual(told[2:], [kept(0, 1, 7, 2), [0, 0, 1, 0, 0], self.sent_with(3)])

    def test_64_are_held(self):
        told = ask(BEGIN, *ones(2, 63), *ones(2, 2, 64), STATE, *ones(2, 1, 1, leg=8), STATE)
        self.assertEqual(told[64:], [kept(0, 1, 64, 1), [0], [0, 0, 64, 0, 0], kept(0, 1, 1, 8), [0, 0, 64, 0, 0]])

    def test_64_of_its_own_are_held(self):
        told = ask(BEGIN, *[put(1, 50)] * 64, heard(0, ON), heard(0, parcel_bytes(0, 1, 64, 50, 2)), STATE)
        self.assertEqual(told[-3:], [[0], kept(0, 0, 64, 2), [0, 0, 64, 0, 0]])

    def test_there_is_room_again_behind_kept(self):
        told = ask(BEGIN, *[put(1, 50)] * 64, heard(0, ON), heard(0, kept_bytes(0, 9, 1)), heard(0, ON), STATE)
        self.assertEqual(told[-4:], [[0], [0], kept(0, 1, 7, 3), [0, 0, 64, 0, 0]])

    def test_64_arrived_do_not_stand_in_its_way(self):
        told = ask(BEGIN, *ones(0, 64), *ones(2, 1, 65), STATE)
        self.assertEqual(told[-2:], [kept(0, 1, 65, 1), [0, 0, 1, 64, 64]])

    def test_the_greatest_leg_is_handed_on_with_one_more(self):
        told = ask(*self.begin_with(COUNT_MOST), TICK)
        self.assertEqual(told[-1], self.sent_with(COUNT_MOST + 1))


class KeptIsSent(LineTest):
    def behind(self, time, message=HERE):
        return ask(BEGIN, *ticks(time), heard(2, message))[-1]

    def test_while_the_pass_is_open(self):
        for message in (HERE, ON):
            for time in (0, 4, 9, 10):
                self.assertEqual(self.behind(time, message), [0])
            for time in (5, 6, 8):
                self.assertEqual(self.behind(time, message), kept(2, 1, 7, 3))

    def test_it_is_taken_all_the_same_where_kept_is_not_sent(self):
        self.check((BEGIN, [0]), (heard(2, HERE), [0]), (heard(2, ON), [0]), (STATE, [0, 0, 1, 1, 1]))

    def test_where_it_is_known_or_held_already(self):
        told = ask(BEGIN, heard(2, HERE), heard(2, ON), *ticks(5), heard(2, HERE), heard(2, ON))
        self.assertEqual(told[1:3] + told[-2:], [[0], [0], kept(2, 1, 7, 3), kept(2, 1, 7, 3)])

    def test_by_the_pass_by_which_it_came(self):
        told = ask(BEGIN, *ticks(5), heard(0, HERE), heard(2, HERE), heard(0, HERE))
        self.assertEqual(told[-3:], [kept(0, 1, 7, 3), kept(2, 1, 7, 3), kept(0, 1, 7, 3)])

    def test_its_bytes(self):
        # 66051 is 0x010203, and 67438087 is 0x04050607.
        told = ask(BEGIN, heard(0, parcel_bytes(3, 1, 66051, 50, 67438087)))
        self.assertEqual(told[1], [0, 0, 12, 2, 3, 0, 0, 3, 2, 1, 0, 7, 6, 5, 4])

    def test_the_greatest_number_and_leg(self):
        told = ask(BEGIN, heard(0, parcel_bytes(3, 1, COUNT_MOST, 50, COUNT_MOST)))
        self.assertEqual(told[1], [0, 0, 12, 2, 3, 0, 0, 255, 255, 255, 127, 255, 255, 255, 127])

    def test_no_kept_at_a_million(self):
        plan = plan_of(2, link(0, 1, 1, 0, 1000000))
        for time, answer in ((999999, kept(0, 1, 7, 3)), (1000000, [0])):
            node = Node(plan, 0)
            node.time = time
            self.assertEqual(node.hear(0, parcel_bytes(1, 0, 7, 1000000, 3)), answer)
            self.assertEqual(node.state(), [0, time, 0, 1, 1])


class KeptIsHeard(LineTest):
    def test_its_leg_is_one_less(self):
        self.check((BEGIN, [0]), (put(1, 50), [1]), (heard(0, ON), kept(0, 1, 7, 3)), (STATE, [0, 0, 2, 0, 0]),
                   (heard(0, kept_bytes(0, 1, 1)), [0]), (STATE, [0, 0, 1, 0, 0]),
                   (heard(0, kept_bytes(1, 7, 4)), [0]), (STATE, [0, 0, 0, 0, 0]))

    def test_it_is_sent_no_more(self):
        plan = start(2, 0, [link(0, 1)])
        told = ask(plan, put(1, 50), put(1, 60), TICK, heard(0, kept_bytes(0, 1, 1)), *ticks(4))
        self.assertEqual([each[0] for each in told[5:]], [1, 0, 1, 0])
        self.assertEqual(told[5], sent((0, parcel_bytes(0, 1, 2, 60, 1))))

    def test_another_leg(self):
        for leg in (1, 2, 3, 5, 6, COUNT_MOST):
            self.check((BEGIN, [0]), (heard(0, ON), kept(0, 1, 7, 3)), (heard(0, kept_bytes(1, 7, leg)), [0]),
                       (STATE, [0, 0, 1, 0, 0]))
        for leg in (2, 3, COUNT_MOST):
            self.check((BEGIN, [0]), (put(1, 50), [1]), (heard(0, kept_bytes(0, 1, leg)), [0]),
                       (STATE, [0, 0, 1, 0, 0]))

    def test_one_that_is_not_held(self):
        self.check((BEGIN, [0]), (put(1, 50), [1]), (heard(0, ON), kept(0, 1, 7, 3)),
                   (heard(0, kept_bytes(0, 2, 1)), [0]), (heard(0, kept_bytes(1, 1, 1)), [0]),
                   (heard(0, kept_bytes(1, 8, 4)), [0]), (heard(0, kept_bytes(2, 7, 4)), [0]),
                   (STATE, [0, 0, 2, 0, 0]))

    def test_what_arrived_and_is_known_stays(self):
        self.check((BEGIN, [0]), (heard(0, HERE), kept(0, 1, 7, 3)), (heard(0, kept_bytes(1, 7, 4)), [0]),
                   (STATE, [0, 0, 0, 1, 1]), (READ, [3, 1, 7, 50, 8, 9]))

    def test_a_late_one_for_a_parcel_that_came_back_meanwhile(self):
        self.check((BEGIN, [0]), (put(1, 50), [1]), (TICK, sent((0, parcel_bytes(0, 1, 1, 50, 1)))),
                   (heard(2, parcel_bytes(0, 1, 1, 50, 2)), [0]), (heard(0, kept_bytes(0, 1, 1)), [0]),
                   (STATE, [0, 1, 1, 0, 0]), (heard(0, kept_bytes(0, 1, 3)), [0]), (STATE, [0, 1, 0, 0, 0]))

    def test_a_late_one_for_a_parcel_that_went_and_came_back(self):
        self.check((BEGIN, [0]), (put(1, 50), [1]), (heard(0, kept_bytes(0, 1, 1)), [0]), (STATE, [0, 0, 0, 0, 0]),
                   (heard(0, parcel_bytes(0, 1, 1, 50, 2)), kept(0, 0, 1, 2)), (heard(0, kept_bytes(0, 1, 1)), [0]),
                   (STATE, [0, 0, 1, 0, 0]))

    def test_before_it_was_sent_and_by_a_pass_that_is_not_open(self):
        self.check((BEGIN, [0]), (put(1, 50), [1]), (heard(2, kept_bytes(0, 1, 1)), [0]), (STATE, [0, 0, 0, 0, 0]))

    def test_twice(self):
        self.check((BEGIN, [0]), (put(1, 50), [1]), (put(1, 50), [2]), (heard(0, kept_bytes(0, 1, 1)), [0]),
                   (heard(0, kept_bytes(0, 1, 1)), [0]), (STATE, [0, 0, 1, 0, 0]), (put(1, 50), [3]))

    def test_nothing_is_sent_behind_it(self):
        told = ask(BEGIN, put(1, 50), TICK, heard(0, kept_bytes(0, 1, 1)), heard(0, kept_bytes(0, 1, 1)))
        self.assertEqual(told[-2:], [[0], [0]])


if __name__ == "__main__":
    unittest.main()

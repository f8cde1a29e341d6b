"""Promise 3: nd_tick."""

import unittest

from lines import TICK, LineTest, ask, link, parcel_bytes, put, sent, sent_briefly, start, ticks
from parcelpasses.node import Node
from parcelpasses.parcel import Parcel
from parcelpasses.plan import plan_of


def times_sent(told):
    """The times of the ticks, the first of which leads to 1, that sent something."""
    return [time for time, each in enumerate(told, 1) if each[0] > 0]


def node_with(parcels, links, n=4, me=0, time=0):
    node = Node(plan_of(n, [number for each in links for number in each]), me)
    node.time = time
    for parcel in parcels:
        node.held[(parcel.source, parcel.number)] = parcel
    return node


class Opening(LineTest):
    def sent_at(self, begins, ends, count=10):
        told = ask(start(2, 0, [link(0, 1, 1, begins, ends)]), put(1, 1000), *ticks(count))
        return times_sent(told[2:])

    def test_at_begins(self):
        self.assertEqual(self.sent_at(4, 5), [4])

    def test_not_before_begins(self):
        self.assertEqual(self.sent_at(11, 12), [])

    def test_from_begins_on_before_ends(self):
        self.assertEqual(self.sent_at(3, 5), [3])
        self.assertEqual(self.sent_at(3, 6), [3, 5])
        self.assertEqual(self.sent_at(0, 2), [1])
        self.assertEqual(self.sent_at(0, 1), [])

    def test_at_the_last_time_before_ends_and_not_at_ends(self):
        plan = [link(0, 1, 1, 2, 5)]
        told = ask(start(2, 0, plan), *ticks(3), put(1, 9), TICK, TICK)
        self.assertEqual([each[0] for each in told[-2:]], [1, 0])
        told = ask(start(2, 0, plan), *ticks(4), put(1, 9), TICK, TICK)
        self.assertEqual([each[0] for each in told[-2:]], [0, 0])

    def test_either_node_sends(self):
        for me in (0, 1):
            self.check((start(2, me, [link(0, 1)]), [0]), (put(1 - me, 9), [1]),
                       (TICK, sent((0, parcel_bytes(me, 1 - me, 1, 9, 1)))))

    def test_not_by_a_pass_of_others(self):
        self.check((start(3, 0, [link(1, 2)]), [0]), (put(1, 9), [1]), (put(2, 9), [2]), (TICK, [0]))

    def test_nothing_to_send(self):
        self.check((start(2, 0, [link(0, 1)]), [0]), (TICK, [0]), (TICK, [0]))


class WhichWay(LineTest):
    def first_pass(self, links, to, end=900, n=6):
        """The pass by which a parcel is sent at time 1, or None."""
        told = ask(start(n, 0, links), put(to, end), TICK)[-1]
        found = sent_briefly(told)
        return found[0][0] if found else None

    def test_the_soonest(self):
        self.assertEqual(self.first_pass([link(0, 1, 9), link(0, 1, 8), link(0, 1, 10)], 1), 1)

    def test_the_soonest_though_it_has_more_passes(self):
        self.assertEqual(self.first_pass([link(0, 1, 9), link(0, 2, 4), link(2, 1, 4)], 1), 1)

    def test_the_fewest_passes_of_the_soonest(self):
        self.assertEqual(self.first_pass([link(0, 2, 4), link(2, 1, 4), link(0, 1, 8)], 1), 2)

    def test_the_fewest_passes_though_they_are_at_a_node_later(self):
        # Both are in time for pass 3; the one that is at node 2 sooner has one pass more.
        links = [link(0, 1, 1), link(1, 2, 1), link(0, 2, 7), link(2, 3, 1, 20, 21)]
        self.assertEqual(self.first_pass(links, 3), 2)
        self.assertEqual(self.first_pass(links, 2), 0)

    def test_the_least_row_of_the_fewest(self):
        self.assertEqual(self.first_pass([link(0, 1, 3), link(0, 1, 3)], 1), 0)
        self.assertEqual(self.first_pass([link(1, 2), link(0, 2, 3), link(0, 2, 3)], 2), 1)

    def test_the_least_row_though_it_is_at_a_node_later(self):
        links = [link(0, 1, 6), link(0, 1, 2), link(1, 2, 1, 20, 30)]
        self.assertEqual(self.first_pass(links, 2), 0)
        self.assertEqual(self.first_pass(links, 1), 1)

    def test_rows_are_compared_from_the_first_place_on(self):
        # The rows are (1, 5) and (2, 0).
        links = [link(2, 3), link(0, 1), link(0, 2), link(4, 5), link(4, 5), link(1, 3)]
        self.assertEqual(self.first_pass(links, 3), 1)

    def test_the_row_counts_and_not_its_sum_or_its_last(self):
        # The rows are (0, 4, 5) and (1, 2, 3).
        links = [link(0, 1), link(0, 2), link(2, 4), link(4, 5), link(1, 3), link(3, 5)]
        self.assertEqual(self.first_pass(links, 5), 0)

    def test_a_way_that_waits_for_a_later_pass(self):
        links = [link(0, 1, 1, 0, 2), link(1, 2, 3, 50, 60)]
        self.assertEqual(self.first_pass(links, 2, end=53), 0)
        self.assertIsNone(self.first_pass(links, 2, end=52))

    def test_a_later_pass_is_awaited_here_if_it_arrives_sooner(self):
        # By pass 0 now it would be there at 51, by pass 1 at 21.
        links = [link(0, 1, 50), link(0, 1, 1, 20, 30)]
        told = ask(start(2, 0, links), put(1, 900), *ticks(20))
        self.assertEqual(times_sent(told[2:]), [20])
        self.assertEqual(sent_briefly(told[-1]), [(1, 0, 1)])

    def test_a_later_pass_is_awaited_here_if_its_number_is_less(self):
        # Both are in time for pass 2.
        links = [link(0, 1, 1, 5, 6), link(0, 1, 1, 0, 6), link(1, 2, 1, 10, 11)]
        told = ask(start(3, 0, links), put(2, 900), *ticks(5))
        self.assertEqual(times_sent(told[2:]), [5])
        self.assertEqual(sent_briefly(told[-1]), [(0, 0, 1)])

    def test_a_pass_that_ends_before_one_is_there(self):
        # At time 1 + 4 one is at node 1: before ends 6, but not before ends 5.
        self.assertEqual(self.first_pass([link(0, 1, 4), link(1, 2, 1, 0, 6)], 2), 0)
        self.assertIsNone(self.first_pass([link(0, 1, 4), link(1, 2, 1, 0, 5)], 2))

    def test_the_way_is_asked_for_at_each_tick(self):
        # At time 1 the way is by pass 0 and 1, later pass 1 is missed and pass 2 is left.
        links = [link(0, 1), link(1, 2, 1, 0, 3), link(0, 2, 90)]
        told = ask(start(3, 0, links), put(2, 900), *ticks(3))
        self.assertEqual(sent_briefly(told[2]), [(0, 0, 1)])
        self.assertEqual(sent_briefly(told[3]), [])
        self.assertEqual(sent_briefly(told[4]), [(2, 0, 1)])

    def test_no_way_at_all(self):
        self.assertIsNone(self.first_pass([link(0, 1), link(2, 3)], 3))

    def test_a_way_through_every_node(self):
        links = [link(k, k + 1) for k in range(31)]
        self.assertEqual(self.first_pass(links, 31, end=32, n=32), 0)
        self.assertIsNone(self.first_pass(links, 31, end=31, n=32))


class ByItsEnd(LineTest):
    def test_it_arrives_at_its_end(self):
        links = [link(0, 1, 4)]
        self.check((start(2, 0, links), [0]), (put(1, 5), [1]), (TICK, sent((0, parcel_bytes(0, 1, 1, 5, 1)))))

    def test_it_would_arrive_behind_its_end(self):
        self.check((start(2, 0, [link(0, 1, 4)]), [0]), (put(1, 4), [1]), (TICK, [0]), (TICK, [0]))

    def test_it_is_not_sent_by_a_slower_pass_either(self):
        self.check((start(2, 0, [link(0, 1, 4), link(0, 1, 5)]), [0]), (put(1, 4), [1]), (TICK, [0]))

    def test_one_that_would_be_late_stands_in_nobodys_way(self):
        self.check((start(2, 0, [link(0, 1, 4)]), [0]), (put(1, 4), [1]), (put(1, 5), [2]),
                   (TICK, sent((0, parcel_bytes(0, 1, 2, 5, 1)))))


class SeveralPasses(LineTest):
    def test_in_rising_order(self):
        links = [link(0, 3), link(1, 2), link(2, 0), link(0, 1)]
        self.check((start(4, 0, links), [0]), (put(1, 9), [1]), (put(2, 9), [2]), (put(3, 9), [3]),
                   (TICK, sent((0, parcel_bytes(0, 3, 3, 9, 1)), (2, parcel_bytes(0, 2, 2, 9, 1)),
                               (3, parcel_bytes(0, 1, 1, 9, 1)))))

    def test_one_parcel_by_each_pass_at_a_tick(self):
        told = ask(start(2, 0, [link(0, 1, 50), link(0, 1, 50)]), put(1, 900), put(1, 900), TICK, TICK, TICK)
        self.assertEqual([sent_briefly(each) for each in told[3:]], [[(0, 0, 1)], [(0, 0, 2)], []])

    def test_some_passes_send_and_some_have_nothing(self):
        links = [link(0, 1), link(0, 2), link(0, 3), link(0, 1, 1, 5, 9)]
        told = ask(start(4, 0, links), put(3, 9), put(1, 9), TICK)
        self.assertEqual(sent_briefly(told[-1]), [(0, 0, 2), (2, 0, 1)])


class Before(LineTest):
    def first_of(self, parcels):
        links = [link(0, 3)]
        found = sent_briefly(node_with([Parcel(*each, []) for each in parcels], links).tick())
        self.assertEqual(len(found), 1)
        return found[0][1:]

    def test_by_end(self):
        told = ask(start(2, 0, [link(0, 1, 9)]), put(1, 300), put(1, 100), put(1, 200), *ticks(4))
        self.assertEqual([sent_briefly(each) for each in told[4:]],
                         [[(0, 0, 2)], [(0, 0, 3)], [(0, 0, 1)], []])

    def test_by_number_of_like_ends(self):
        told = ask(start(2, 0, [link(0, 1, 9)]), *[put(1, 300)] * 11, *ticks(11))
        self.assertEqual([sent_briefly(each) for each in told[12:]], [[(0, 0, k)] for k in range(1, 12)])

    def test_end_counts_more_than_source_and_number(self):
        self.assertEqual(self.first_of([(0, 1, 3, 50), (2, 9, 3, 49), (1, 2, 3, 50)]), (2, 9))

    def test_source_counts_more_than_number(self):
        self.assertEqual(self.first_of([(2, 1, 3, 50), (1, 9, 3, 50), (2, 2, 3, 50)]), (1, 9))

    def test_number_of_like_ends_and_sources(self):
        self.assertEqual(self.first_of([(1, 10, 3, 50), (1, 9, 3, 50), (2, 2, 3, 50)]), (1, 9))

    def test_only_among_those_that_go_by_the_pass(self):
        told = ask(start(3, 0, [link(0, 1), link(0, 2)]), put(2, 5), put(1, 9), TICK)
        self.assertEqual(sent_briefly(told[-1]), [(0, 0, 2), (1, 0, 1)])


class Waiting(LineTest):
    def test_twice_takes(self):
        for takes in (1, 2, 7):
            told = ask(start(2, 0, [link(0, 1, takes)]), put(1, 900), *ticks(6 * takes))
            self.assertEqual(times_sent(told[2:]), [1, 1 + 2 * takes, 1 + 4 * takes])

    def test_takes_of_255(self):
        told = ask(start(2, 0, [link(0, 1, 255)]), put(1, 1000), *ticks(600))
        self.assertEqual(times_sent(told[2:]), [1, 511])

    def test_it_is_sent_again_just_as_before(self):
        message = sent((0, parcel_bytes(0, 1, 1, 900, 1, [5])))
        self.check((start(2, 0, [link(0, 1)]), [0]), (put(1, 900, [5]), [1]), (TICK, message), (TICK, [0]),
                   (TICK, message), (TICK, [0]))

    def test_the_takes_of_the_pass_and_not_of_the_way(self):
        told = ask(start(3, 0, [link(0, 1, 2), link(1, 2, 30)]), put(2, 900), *ticks(9))
        self.assertEqual(times_sent(told[2:]), [1, 5, 9])

    def test_another_one_goes_while_the_first_waits(self):
        told = ask(start(2, 0, [link(0, 1)]), put(1, 900), put(1, 901), *ticks(4))
        self.assertEqual([sent_briefly(each) for each in told[3:]],
                         [[(0, 0, 1)], [(0, 0, 2)], [(0, 0, 1)], [(0, 0, 2)]])

    def test_one_that_waits_goes_by_no_other_pass(self):
        # Pass 1 opens at 2, while the parcel waits till 11.
        links = [link(0, 1, 5, 0, 2), link(0, 1, 5, 2, 900)]
        told = ask(start(2, 0, links), put(1, 900), *ticks(11))
        self.assertEqual([sent_briefly(each) for each in told[2:]], [[(0, 0, 1)]] + [[]] * 9 + [[(1, 0, 1)]])


class Ended(LineTest):
    def test_at_its_end_it_is_held_still(self):
        full = [start(2, 0)] + [put(1, 3)] * 64
        told = ask(*full, *ticks(3), put(1, 9), TICK, put(1, 9))
        self.assertEqual(told[-3:], [[-28], [0], [65]])

    def test_each_goes_by_its_own_end(self):
        told = ask(start(2, 0), *[put(1, 2)] * 32, *[put(1, 4)] * 32, *ticks(3), *[put(1, 9)] * 33, *ticks(2),
                   *[put(1, 9)] * 33)
        self.assertEqual(told[68:101], [[number] for number in range(65, 97)] + [[-28]])
        self.assertEqual(told[103:], [[number] for number in range(97, 129)] + [[-28]])

    def test_it_is_not_sent_any_more(self):
        told = ask(start(2, 0, [link(0, 1)]), put(1, 4), *ticks(9))
        self.assertEqual(times_sent(told[2:]), [1, 3])

    def test_those_arrived_and_known_go_too(self):
        node = node_with([], [], time=6)
        node.arrived = [Parcel(1, 1, 0, 6, []), Parcel(1, 2, 0, 7, []), Parcel(2, 1, 0, 6, []),
                        Parcel(2, 2, 0, 8, [])]
        node.known = {(1, 1): 6, (1, 2): 7, (2, 1): 6, (2, 2): 8}
        self.assertEqual(node.tick(), [0])
        self.assertEqual([(each.source, each.number) for each in node.arrived], [(1, 2), (2, 2)])
        self.assertEqual(node.known, {(1, 2): 7, (2, 2): 8})
        node.tick()
        self.assertEqual([(each.source, each.number) for each in node.arrived], [(2, 2)])
        self.assertEqual(node.known, {(2, 2): 8})


class Message(LineTest):
    def test_its_bytes(self):
        # 66051 is 0x010203.
        told = ask(start(5, 3, [link(4, 3)]), put(4, 66051, [9, 0, 255]), TICK)
        self.assertEqual(told[-1], [1, 0, 19, 1, 3, 4, 3, 1, 0, 0, 0, 3, 2, 1, 0, 1, 0, 0, 0, 9, 0, 255])

    def test_the_greatest_end(self):
        told = ask(start(2, 0, [link(0, 1)]), put(1, 1000000), TICK)
        self.assertEqual(told[-1], [1, 0, 16, 1, 0, 1, 0, 1, 0, 0, 0, 64, 66, 15, 0, 1, 0, 0, 0])

    def test_48_bytes(self):
        data = list(range(200, 248))
        told = ask(start(2, 0, [link(0, 1)]), put(1, 9, data), TICK)
        self.assertEqual(told[-1], [1, 0, 64, 1, 0, 1, 48, 1, 0, 0, 0, 9, 0, 0, 0, 1, 0, 0, 0] + data)

    def test_a_number_above_a_byte(self):
        calls = [start(2, 0, [link(0, 1, 1, 12, 13)])]
        for time in (0, 2, 4, 6, 8):
            calls += [put(1, time + 1)] * 60 + ticks(2)
        told = ask(*calls, put(1, 99), *ticks(2))
        self.assertEqual(told[-3], [301])
        self.assertEqual(told[-1], sent((0, parcel_bytes(0, 1, 301, 99, 1))))

    def test_to_is_the_parcels_and_not_the_next_node(self):
        told = ask(start(3, 0, [link(0, 1), link(1, 2)]), put(2, 9), TICK)
        self.assertEqual(told[-1], sent((0, parcel_bytes(0, 2, 1, 9, 1))))

    def test_one_leg_more_than_what_is_held(self):
        held = Parcel(2, 70000, 3, 50, [6])
        held.leg = 511
        node = node_with([held], [link(0, 3)])
        message = parcel_bytes(2, 3, 70000, 50, 512, [6])
        self.assertEqual(node.tick(), sent((0, message)))
        self.assertEqual(held.leg, 511)
        self.assertEqual([node.tick(), node.tick()], [[0], sent((0, message))])


class LastTime(LineTest):
    def test_no_tick_behind_a_million(self):
        node = node_with([Parcel(0, 1, 3, 1000000, [])], [link(0, 3, 1, 0, 1000000)], time=999998)
        self.assertEqual(node.tick(), sent((0, parcel_bytes(0, 3, 1, 1000000, 1))))
        self.assertEqual(node.time, 999999)
        self.assertEqual(node.tick(), [0])
        self.assertEqual(node.time, 1000000)
        self.assertEqual(len(node.held), 1)
        self.assertEqual(node.tick(), [-34])
        self.assertEqual(node.tick(), [-34])
        self.assertEqual(node.time, 1000000)
        self.assertEqual(len(node.held), 1)

    def test_nothing_can_be_put_then(self):
        node = node_with([], [], time=1000000)
        self.assertEqual(node.put(1, 1000000, []), [-22])

    def test_the_refusal_stands_alone(self):
        node = node_with([Parcel(0, 1, 3, 1000000, [])], [link(0, 3, 1, 0, 1000000)], time=1000000)
        self.assertEqual(node.tick(), [-34])
        self.assertEqual(node.held[(0, 1)].waits_till, 0)


if __name__ == "__main__":
    unittest.main()

"""What holds over several nodes with one plan: a to d."""

import random
import unittest

from lines import link
from model import some_links, ways_by_trying
from net import Net


class Holds(unittest.TestCase):
    def check_read_once(self, net):
        for key, reads in net.read_ones.items():
            self.assertEqual(len(reads), 1, key)
            to, end, data, time = net.put_ones[key]
            self.assertEqual(reads[0], (to, end, data), key)

    def check_never_lost(self, net):
        latest = max(net.time(me) for me in range(len(net.nodes)))
        held = {key for me in range(len(net.nodes)) for key in net.held_by(me)}
        for key, (to, end, data, time) in net.put_ones.items():
            if latest <= end and key not in held:
                here = [(each.source, each.number) for each in net.nodes[to].node.arrived]
                self.assertTrue(key in here or key in net.read_ones, (key, net.links))

    def check_nobody_holds_it_behind_its_end(self, net):
        for me in range(len(net.nodes)):
            for key, end in net.held_by(me).items():
                self.assertLessEqual(net.time(me), end, key)

    def check_all(self, net):
        self.check_read_once(net)
        self.check_never_lost(net)
        self.check_nobody_holds_it_behind_its_end(net)


class Astray(Holds):
    """Messages are lost, doubled and late, and each node's time goes on by itself."""

    def step(self, source, net, messages, most_put, latest):
        n = len(net.nodes)
        me = source.randrange(n)
        which = source.random()
        if which < 0.1 and len(net.put_ones) < most_put:
            to = (me + source.randrange(1, n)) % n
            end = min(latest, net.time(me) + source.choice((1, 4, 12, 40, 80)))
            net.put(me, to, end, [source.randrange(256) for each in range(source.choice((0, 2, 48)))])
        elif which < 0.35:
            messages.extend(net.tick(me))
        elif which < 0.4:
            net.read(me)
        elif messages:
            # Late ones as well as new ones; none is taken out, so each may come again.
            last = source.choice((3, 12, len(messages)))
            messages.extend(net.bring(source.choice(messages[-last:])))

    def wander(self, source, n, links, steps, most_put=30, latest=10000):
        net, messages = Net(n, links), []
        for each in range(steps):
            self.step(source, net, messages, most_put, latest)
            self.check_all(net)
        return net

    def test_small_plans(self):
        source = random.Random(11)
        read = 0
        for turn in range(120):
            n = source.randint(2, 5)
            links = some_links(source, n, source.randint(n - 1, 8), source.choice((20, 60)))
            read += len(self.wander(source, n, links, 250).read_ones)
        self.assertGreater(read, 300)

    def test_rings_with_parcels_that_come_back(self):
        # Passes that open and close, so that the way turns round while a parcel is under way.
        source = random.Random(12)
        for turn in range(60):
            links = []
            for time in range(0, 60, 6):
                a = source.randrange(4)
                links.append(link(a, (a + 1) % 4, source.choice((1, 2)), time, time + source.choice((3, 6, 12))))
                links.append(link(a, (a + 3) % 4, source.choice((1, 2)), time, time + source.choice((3, 6, 12))))
            self.wander(source, 4, links, 400, most_put=3)

    def test_full_nodes(self):
        source = random.Random(13)
        links = [link(0, 1), link(1, 2, 2), link(2, 0, 3, 5, 40), link(0, 3, 1, 3, 90)]
        net, messages = Net(4, links), []
        for me in range(4):
            for number in range(64 if me < 2 else 40):
                net.put(me, (me + source.randrange(1, 4)) % 4, source.choice((30, 60, 90)), [me, number])
        for each in range(2500):
            self.step(source, net, messages, 400, 120)
            if each % 10 == 0:
                self.check_all(net)
        self.check_all(net)
        self.assertGreater(len(net.read_ones), 20)

    def test_a_late_kept_for_a_parcel_that_has_come_back(self):
        net = Net(3, [link(0, 1), link(1, 2, 1, 0, 4), link(0, 2, 1, 20)])
        key = net.put(0, 2, 50)
        on = net.tick(0)
        # Node 1 gets it when pass 1 is over: from there the way leads back.
        for time in range(10):
            net.tick(1)
        late_kept = net.bring(on[0])
        back = net.tick(1)
        new_kept = net.bring(back[0])
        net.bring(new_kept[0])
        self.assertEqual([list(net.held_by(me)) for me in (0, 1)], [[key], []])
        net.bring(late_kept[0])
        self.assertEqual([list(net.held_by(me)) for me in (0, 1)], [[key], []])
        self.check_all(net)

    def test_a_doubled_message_from_before_and_then_a_late_kept(self):
        net = Net(4, [link(2, 0), link(0, 1), link(1, 3, 1, 0, 4), link(0, 3, 1, 20)])
        key = net.put(2, 3, 50)
        doubled = net.tick(2)
        net.bring(net.bring(doubled[0])[0])
        on = net.tick(0)
        for time in range(10):
            net.tick(1)
        late_kept = net.bring(on[0])
        back = net.tick(1)
        net.bring(net.bring(back[0])[0])
        net.bring(doubled[0])
        net.bring(late_kept[0])
        self.assertEqual([list(net.held_by(me)) for me in range(4)], [[key], [], [], []])
        self.check_all(net)

    def test_two_nodes_that_hold_one_and_another(self):
        # Each is full and hands on to the other: nothing is kept, and so nothing is lost.
        net = Net(4, [link(0, 1), link(1, 3, 1, 0, 300), link(0, 2, 1, 0, 300)])
        for number in range(64):
            net.put(0, 3, 200, [number])
            net.put(1, 2, 200, [number])
        for time in range(20):
            messages = net.tick(0) + net.tick(1)
            for each in messages:
                if each[1] < 2:
                    self.assertEqual(net.bring(each), [])
        self.assertEqual([len(net.held_by(me)) for me in (0, 1)], [64, 64])
        self.check_all(net)

    def hand_over(self, net):
        """Node 0 puts one for node 1, and it is brought there, and whatever is sent for it back."""
        net.put(0, 1, 990, [len(net.put_ones) % 256])
        for message in net.tick(0):
            for answer in net.bring(message):
                net.bring(answer)
        self.check_all(net)

    def test_a_node_where_64_have_arrived(self):
        net = Net(2, [link(0, 1)])
        for time in range(70):
            self.hand_over(net)
        self.assertEqual([len(net.held_by(0)), len(net.arrived_ones)], [6, 64])
        for time in range(20):
            net.read(1)
            self.hand_over(net)
        self.check_all(net)
        self.assertEqual(len(net.arrived_ones), 84)

    def test_a_node_where_256_are_known(self):
        net = Net(2, [link(0, 1)])
        for time in range(262):
            self.hand_over(net)
            net.read(1)
        self.assertEqual([len(net.held_by(0)), len(net.read_ones)], [6, 256])
        self.check_all(net)

    def test_kept_that_can_not_be_sent_since_the_pass_closed(self):
        net = Net(2, [link(0, 1, 3, 0, 3)])
        net.put(0, 1, 50, [7])
        sent = net.tick(0)
        for time in range(3):
            net.tick(1)
        self.assertEqual(net.bring(sent[0]), [])
        self.assertEqual(list(net.held_by(0)), [(0, 1)])
        net.read(1)
        net.bring(sent[0])
        net.read(1)
        self.check_all(net)

    def test_read_once_behind_its_end_too(self):
        net = Net(2, [link(0, 1)])
        net.put(0, 1, 4, [7])
        sent = net.tick(0)
        for time in range(9):
            net.bring(sent[0])
            net.read(1)
            net.tick(1)
        self.assertEqual(net.read_ones, {(0, 1): [(1, 4, [7])]})


class OnTime(Holds):
    """All times go on together; each message comes once, so many times later as its pass takes."""

    def go(self, net, puts, until):
        """Puts are (time, me, to, end, data)."""
        due = {}
        for time in range(until):
            for each in [each for each in puts if each[0] == time]:
                net.put(*each[1:])
            # What is sent now by a pass that takes 1 comes before the next tick, too.
            coming = due.setdefault(time + 1, [])
            while coming:
                self.send(net, due, time, net.bring(coming.pop(0)))
            for me in range(len(net.nodes)):
                self.send(net, due, time + 1, net.tick(me))
            self.check_all(net)
            for me in range(len(net.nodes)):
                if (time + me) % 5 == 0:
                    net.read(me)

    def send(self, net, due, time, messages):
        for message in messages:
            due.setdefault(time + net.links[message[0]][2], []).append(message)

    def soonest(self, net, key):
        """When it could be there, or None."""
        to, end, data, time = net.put_ones[key]
        ways = ways_by_trying(len(net.nodes), net.links, key[0], time + 1)
        return ways[to][0] if to in ways else None

    def check_times(self, net):
        """How many of the first of all arrived: none or one."""
        for key, found in net.arrived_ones.items():
            self.assertEqual(len(found), 1)
            self.assertLessEqual(self.soonest(net, key), found[0][1] + 1, (key, net.links))
        first = min(net.put_ones, key=lambda key: (net.put_ones[key][1],) + key)
        soonest = self.soonest(net, first)
        if soonest is None or soonest > net.put_ones[first][1]:
            self.assertNotIn(first, net.arrived_ones, net.links)
            return 0
        self.assertEqual(net.arrived_ones[first], [(net.put_ones[first][0], soonest - 1)], (first, net.links))
        return 1

    def some_puts(self, source, n, count, latest):
        puts = []
        for each in range(count):
            time, me = source.randrange(latest), source.randrange(n)
            end = time + source.choice((5, 20, 40, 60, 80))
            puts.append((time, me, (me + source.randrange(1, n)) % n, end, [each]))
        return puts

    def test_small_plans(self):
        source = random.Random(21)
        arrived = 0
        for turn in range(200):
            n = source.randint(2, 5)
            links = some_links(source, n, source.randint(n - 1, 8), source.choice((10, 20, 40)))
            net = Net(n, links)
            puts = self.some_puts(source, n, source.choice((1, 5, 30, 64)), source.choice((1, 10, 30)))
            self.go(net, puts, 90)
            arrived += self.check_times(net)
        self.assertGreater(arrived, 60)

    def test_64_at_one_node(self):
        net = Net(3, [link(0, 1, 2), link(1, 2, 3, 30), link(0, 2, 9, 40, 50)])
        self.go(net, [(0, 0, 2, 100 - k, [k]) for k in range(64)], 110)
        self.assertEqual(self.check_times(net), 1)
        self.assertEqual(net.arrived_ones[(0, 64)], [(2, 32)])

    def test_just_by_its_end_and_not_behind_it(self):
        for end, found in ((7, {(0, 1): [(2, 6)]}), (6, {})):
            net = Net(3, [link(0, 1, 2), link(1, 2, 2, 5)])
            self.go(net, [(0, 0, 2, end, [])], 12)
            self.assertEqual(net.arrived_ones, found)

    def test_all_of_them_arrive_and_nobody_holds_one_any_more(self):
        net = Net(3, [link(0, 1, 2), link(1, 2, 3)])
        self.go(net, [(k, k % 3, (k + 1) % 3, 400, [k]) for k in range(30)], 120)
        self.assertEqual(len(net.read_ones), 30)
        self.assertEqual([net.held_by(me) for me in range(3)], [{}, {}, {}])

    def test_behind_its_end_nobody_holds_it(self):
        net = Net(4, [link(0, 1), link(1, 2), link(2, 3, 1, 30)])
        # Pass 2 has time for one of the three.
        self.go(net, [(0, 0, 3, 31, [k]) for k in range(3)], 31)
        self.assertEqual([len(net.held_by(me)) for me in range(4)], [0, 0, 2, 0])
        for me in range(4):
            net.tick(me)
        self.assertEqual([len(net.held_by(me)) for me in range(4)], [0, 0, 0, 0])


if __name__ == "__main__":
    unittest.main()

"""The way, held against every row of passes there is in small plans."""

import random
import unittest

from lines import LineTest, ask, link, put, sent_briefly, start, ticks
from parcelpasses.plan import plan_of
from parcelpasses.ways import ways_from


def every_row(links, node, time, most):
    """Each row of at most so many passes: (when it arrives, how many passes, row, where)."""
    found = [(time, 0, (), node)]
    rows = [((), node, time)]
    for count in range(1, most + 1):
        longer = []
        for row, at, now in rows:
            for number, (a, b, takes, none, begins, ends) in enumerate(links):
                sending = max(now, begins)
                if at not in (a, b) or sending >= ends:
                    continue
                longer.append((row + (number,), a + b - at, sending + takes))
        found += [(now, count, row, at) for row, at, now in longer]
        rows = longer
    return found


def ways_by_trying(n, links, node, time):
    best = {}
    for arrives, count, row, at in every_row(links, node, time, n - 1):
        if at not in best or (arrives, count, row) < best[at]:
            best[at] = (arrives, count, row)
    return {at: (arrives, row[0] if row else None) for at, (arrives, count, row) in best.items()}


def some_links(source, n, count, latest):
    links = []
    for each in range(count):
        a = source.randrange(n)
        b = (a + source.randrange(1, n)) % n
        begins = source.choice((0, source.randrange(latest)))
        ends = begins + source.choice((1, source.randint(1, latest), 40))
        links.append(link(a, b, source.randint(1, source.choice((1, 2, 5))), begins, ends))
    return links


def ways_found(n, links, node, time):
    ways = ways_from(plan_of(n, [number for each in links for number in each]), node, time)
    return {at: (way.arrives, way.first) for at, way in ways.items()}


class EveryRow(unittest.TestCase):
    def test_small_plans(self):
        source = random.Random(52)
        for turn in range(1500):
            n = source.randint(2, 6)
            links = some_links(source, n, source.randint(0, 10), source.choice((3, 6, 12, 20)))
            node = source.randrange(n)
            time = source.randrange(8)
            self.assertEqual(ways_found(n, links, node, time), ways_by_trying(n, links, node, time),
                             (n, links, node, time))

    def test_the_way_to_the_node_itself(self):
        self.assertEqual(ways_found(2, [link(0, 1)], 0, 7)[0], (7, None))

    def test_a_node_that_no_way_leads_to(self):
        self.assertEqual(ways_found(3, [link(0, 1), link(1, 2, 1, 0, 2)], 0, 7), {0: (7, None), 1: (8, 0)})


class Model:
    """One node's parcels of its own, done over from the document's words by trying every row."""

    def __init__(self, n, me, links):
        self.n, self.me, self.links = n, me, links
        self.time, self.count, self.held = 0, 0, []

    def put(self, to, end):
        self.count += 1
        self.held.append({"number": self.count, "to": to, "end": end, "till": 0})

    def tick(self):
        self.time += 1
        self.held = [each for each in self.held if each["end"] >= self.time]
        ways = ways_by_trying(self.n, self.links, self.me, self.time)
        found = []
        for number, (a, b, takes, none, begins, ends) in enumerate(self.links):
            if self.me in (a, b) and begins <= self.time < ends:
                fit = [each for each in self.held if self.fits(each, number, ways)]
                if fit:
                    first = min(fit, key=lambda each: (each["end"], each["number"]))
                    first["till"] = self.time + 2 * takes
                    found.append((number, self.me, first["number"]))
        return found

    def fits(self, each, number, ways):
        if each["till"] > self.time or each["to"] not in ways:
            return False
        arrives, first = ways[each["to"]]
        return first == number and arrives <= each["end"]


class WholeLines(LineTest):
    def test_what_is_sent_at_each_tick(self):
        source = random.Random(3)
        for turn in range(150):
            n = source.randint(2, 4)
            me = source.randrange(n)
            links = some_links(source, n, source.randint(1, 6), source.choice((6, 12, 20)))
            model = Model(n, me, links)
            calls, expected = [start(n, me, links)], []
            for step in range(25):
                for each in range(source.choice((0, 0, 1, 3))):
                    to = (me + source.randrange(1, n)) % n
                    end = model.time + source.randint(1, 25)
                    model.put(to, end)
                    calls.append(put(to, end))
                    expected.append([model.count])
                calls += ticks(1)
                expected.append(model.tick())
            told = ask(*calls)[1:]
            shown = [sent_briefly(each) if call == [2] else each for call, each in zip(calls[1:], told)]
            self.assertEqual(shown, expected, (n, me, links))


if __name__ == "__main__":
    unittest.main()

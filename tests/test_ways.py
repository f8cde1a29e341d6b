"""The way, held against every row of passes there is in small plans."""

import random
import unittest

from lines import link
from model import some_links, ways_by_trying
from parcelpasses.plan import plan_of
from parcelpasses.ways import ways_from


def ways_found(n, links, node, time):
    ways = ways_from(plan_of(n, [number for each in links for number in each]), node, time)
    return {at: (way.arrives, way.first) for at, way in ways.items()}


class EveryRow(unittest.TestCase):
    def test_small_plans(self):
        source = random.Random(52)
        for turn in range(1500):
            n = source.randint(2, 6)
            links = some_links(source, n, source.randint(0, 10), source.choice((3, 6, 12, 20)))
            node = source.randrange(n)
            time = source.randrange(8)
            self.assertEqual(ways_found(n, links, node, time), ways_by_trying(n, links, node, time),
                             (n, links, node, time))

    def test_the_way_to_the_node_itself(self):
        self.assertEqual(ways_found(2, [link(0, 1)], 0, 7)[0], (7, None))

    def test_a_node_that_no_way_leads_to(self):
        self.assertEqual(ways_found(3, [link(0, 1), link(1, 2, 1, 0, 2)], 0, 7), {0: (7, None), 1: (8, 0)})


if __name__ == "__main__":
    unittest.main()

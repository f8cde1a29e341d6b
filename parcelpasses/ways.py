"""The way from a node, at a time, to each node that can be reached: when it arrives, and its first pass."""


# The first pass is None where the way has no pass at all.
class Way:
    def __init__(self, at, arrives, first):
        self.at = at
        self.arrives = arrives
        self.first = first


# A node that no way leads to is not in what's given back.
def ways_from(plan, node, time):
    start = Way(node, time, None)
    best = {node: start}
    ways = [start]
    while ways:
        ways = sooner_by_one_more(plan, ways, best)
    return best


# All the ways handed in have equally many passes, those with a lesser first pass come first, and so
# it is with what's given back. One that is at a node no sooner than one met before it can be left
# out: whatever follows could as well follow that one, which has fewer passes or a first pass no
# greater. One that is sooner does not put out those before it, which may yet be in time for the
# same later pass, unless it has as many passes and the same first: then nothing speaks for them.
def sooner_by_one_more(plan, ways, best):
    longer = {}
    for way in ways:
        for each in plan.passes_of[way.at]:
            sending = each.soonest_sending(way.arrives)
            if not each.is_open_at(sending):
                continue
            node = each.other_end(way.at)
            arrives = sending + each.takes
            if node in best and best[node].arrives <= arrives:
                continue
            first = each.number if way.first is None else way.first
            best[node] = Way(node, arrives, first)
            longer[(node, first)] = best[node]
    return list(longer.values())

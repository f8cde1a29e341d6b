"""One node: the parcels it holds, and what it does at each call."""

from parcelpasses.messages import parcel_message
from parcelpasses.parcel import MOST_BYTES, Parcel, in_order
from parcelpasses.plan import LAST_TIME
from parcelpasses.ways import ways_from

NOT_AS_TOLD = -22
FULL = -28
TIME_IS_OVER = -34
MOST_HELD = 64


# Parcels held, and the ends of those known, are kept by source and number.
class Node:
    def __init__(self, plan, me):
        self.plan = plan
        self.me = me
        self.time = 0
        self.own_count = 0
        self.held = {}
        self.arrived = []
        self.known = {}

    def put(self, to, end, data):
        if not self.may_go(to, end, data):
            return [NOT_AS_TOLD]
        if len(self.held) >= MOST_HELD:
            return [FULL]
        self.own_count = self.own_count + 1
        self.held[(self.me, self.own_count)] = Parcel(self.me, self.own_count, to, end, list(data))
        return [self.own_count]

    def may_go(self, to, end, data):
        if not self.plan.has_node(to) or to == self.me:
            return False
        return self.time < end and end <= LAST_TIME and len(data) <= MOST_BYTES

    def tick(self):
        if self.time >= LAST_TIME:
            return [TIME_IS_OVER]
        self.time = self.time + 1
        self.drop_ended()
        return self.send_all()

    def drop_ended(self):
        now = self.time
        self.held = dict([(key, parcel) for key, parcel in self.held.items() if parcel.end >= now])
        self.arrived = [parcel for parcel in self.arrived if parcel.end >= now]
        self.known = dict([(key, end) for key, end in self.known.items() if end >= now])

    def send_all(self):
        ready = in_order([parcel for parcel in self.held.values() if not parcel.waits_at(self.time)])
        usable = [each for each in self.plan.passes_of[self.me] if each.is_open_at(self.time)]
        # Ways are costly to find: most ticks have nothing to send, or nothing to send it by.
        if not ready or not usable:
            return [0]
        ways = ways_from(self.plan, self.me, self.time)
        count = 0
        sent = []
        for each in usable:
            parcel = first_to_go_by(each, ready, ways)
            if parcel is not None:
                count = count + 1
                sent.extend(self.send_by(each, parcel))
        return [count] + sent

    # The parcel keeps its own leg: only one who has got it, and says so, is known to be further.
    def send_by(self, by, parcel):
        message = parcel_message(parcel, parcel.leg + 1)
        parcel.waits_till = self.time + 2 * by.takes
        return [by.number, len(message)] + message


# The pass is usable now, so a way that begins with it begins now. A way begins with one pass alone:
# so no parcel is found for two passes of one tick.
def first_to_go_by(by, ready, ways):
    for parcel in ready:
        way = ways.get(parcel.to)
        if way is not None and way.first == by.number and way.arrives <= parcel.end:
            return parcel
    return None

"""One node: the parcels it holds, and what it does at each call."""

from parcelpasses.messages import kept_from, kept_message, parcel_from, parcel_message
from parcelpasses.parcel import MOST_BYTES, Parcel, in_order, key_of
from parcelpasses.plan import LAST_TIME
from parcelpasses.ways import ways_from

DONE = 0
NOT_AS_TOLD = -22
FULL = -28
TIME_IS_OVER = -34
NO_MESSAGE = -71
MOST_HELD = 64
MOST_ARRIVED = 64
MOST_KNOWN = 256


# Parcels held, and the ends of those known, are kept by source and number.
class Node:
    def __init__(self, plan, me):
        self.plan = plan
        self.me = me
        self.time = 0
        self.own_count = 0
        self.held = {}
        self.arrived = []
        self.known = {}

    def put(self, to, end, data):
        if not self.may_go(to, end, data):
            return [NOT_AS_TOLD]
        if len(self.held) >= MOST_HELD:
            return [FULL]
        self.own_count = self.own_count + 1
        self.held[(self.me, self.own_count)] = Parcel(self.me, self.own_count, to, end, list(data))
        return [self.own_count]

    def may_go(self, to, end, data):
        if not self.plan.has_node(to) or to == self.me:
            return False
        return self.time < end and end <= LAST_TIME and len(data) <= MOST_BYTES

    def tick(self):
        if self.time >= LAST_TIME:
            return [TIME_IS_OVER]
        self.time = self.time + 1
        self.drop_ended()
        return self.send_all()

    def drop_ended(self):
        now = self.time
        self.held = dict([(key, parcel) for key, parcel in self.held.items() if parcel.end >= now])
        self.arrived = [parcel for parcel in self.arrived if parcel.end >= now]
        self.known = dict([(key, end) for key, end in self.known.items() if end >= now])

    def send_all(self):
        ready = in_order([parcel for parcel in self.held.values() if not parcel.waits_at(self.time)])
        usable = [each for each in self.plan.passes_of[self.me] if each.is_open_at(self.time)]
        # Ways are costly to find: most ticks have nothing to send, or nothing to send it by.
        if not ready or not usable:
            return [0]
        ways = ways_from(self.plan, self.me, self.time)
        count = 0
        sent = []
        for each in usable:
            parcel = first_to_go_by(each, ready, ways)
            if parcel is not None:
                count = count + 1
                sent.extend(self.send_by(each, parcel))
        return [count] + sent

    # The parcel keeps its own leg: only one who has got it, and says so, is known to be further.
    def send_by(self, by, parcel):
        parcel.waits_till = self.time + 2 * by.takes
        return told_by(by, parcel_message(parcel, parcel.leg + 1))

    def hear(self, pass_number, message):
        by = self.own_pass(pass_number)
        if by is None:
            return [NOT_AS_TOLD]
        parcel = parcel_from(message, self.plan)
        if parcel is not None:
            return [DONE] + self.hear_parcel(by, parcel)
        kept = kept_from(message, self.plan)
        if kept is None:
            return [NO_MESSAGE]
        self.hear_kept(kept)
        return [DONE]

    def own_pass(self, number):
        for each in self.plan.passes_of[self.me]:
            if each.number == number:
                return each
        return None

    def hear_parcel(self, by, parcel):
        if self.take_in(parcel) and by.is_open_at(self.time):
            return told_by(by, kept_message(parcel))
        return []

    # False where the parcel is not safe here: who sent it must not be told to let it go.
    def take_in(self, parcel):
        if parcel.end < self.time:
            return False
        # Its number will be that of another parcel yet to be put.
        if parcel.source == self.me and parcel.number > self.own_count:
            return False
        if parcel.to == self.me:
            return self.take_as_arrived(parcel)
        return self.take_to_hold(parcel)

    def take_as_arrived(self, parcel):
        key = key_of(parcel)
        if key in self.known:
            return True
        if len(self.arrived) >= MOST_ARRIVED or len(self.known) >= MOST_KNOWN:
            return False
        self.arrived.append(parcel)
        self.known[key] = parcel.end
        return True

    # The greater leg stays, so that a late word for a lesser one can't put out what came back since.
    def take_to_hold(self, parcel):
        key = key_of(parcel)
        if key in self.held:
            held = self.held[key]
            held.leg = max(held.leg, parcel.leg)
            return True
        if len(self.held) >= MOST_HELD:
            return False
        self.held[key] = parcel
        return True

    def hear_kept(self, kept):
        key = key_of(kept)
        if key in self.held and self.held[key].leg + 1 == kept.leg:
            self.held.pop(key)

    def read(self):
        if not self.arrived:
            return [0]
        parcel = self.arrived.pop(0)
        return [len(parcel.data) + 1, parcel.source, parcel.number, parcel.end] + parcel.data

    def state(self):
        return [DONE, self.time, len(self.held), len(self.arrived), len(self.known)]


def told_by(by, message):
    return [by.number, len(message)] + message


# The pass is usable now, so a way that begins with it begins now. A way begins with one pass alone:
# so no parcel is found for two passes of one tick.
def first_to_go_by(by, ready, ways):
    for parcel in ready:
        way = ways.get(parcel.to)
        if way is not None and way.first == by.number and way.arrives <= parcel.end:
            return parcel
    return None

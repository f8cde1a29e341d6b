"""Messages between nodes, as lists of bytes, and what is one."""

from parcelpasses.parcel import MOST_BYTES, Parcel
from parcelpasses.plan import LAST_TIME

KIND_PARCEL = 1
KIND_KEPT = 2
PARCEL_HEAD_SIZE = 16
KEPT_SIZE = 12
MOST_COUNT = 2147483647


class Kept:
    def __init__(self, source, number, leg):
        self.source = source
        self.number = number
        self.leg = leg


def four_bytes(number):
    return [number >> shift & 255 for shift in (0, 8, 16, 24)]


def number_at(message, place):
    return sum([message[place + k] << 8 * k for k in range(4)])


def parcel_message(parcel, leg):
    head = [KIND_PARCEL, parcel.source, parcel.to, len(parcel.data)]
    return head + four_bytes(parcel.number) + four_bytes(parcel.end) + four_bytes(leg) + parcel.data


# Kept speaks of the parcel as it came: the leg is that of its message, not that of what is held.
def kept_message(parcel):
    return [KIND_KEPT, parcel.source, 0, 0] + four_bytes(parcel.number) + four_bytes(parcel.leg)


# None stands for what isn't a parcel's message.
def parcel_from(message, plan):
    if not has_parcel_size(message) or message[0] != KIND_PARCEL:
        return None
    data = message[PARCEL_HEAD_SIZE:]
    leg = number_at(message, 12)
    parcel = Parcel(message[1], number_at(message, 4), message[2], number_at(message, 8), data, leg)
    return parcel if is_parcel(parcel, plan) else None


def has_parcel_size(message):
    return len(message) >= PARCEL_HEAD_SIZE and len(message) == PARCEL_HEAD_SIZE + message[3]


def is_parcel(parcel, plan):
    if not plan.has_node(parcel.source) or not plan.has_node(parcel.to) or parcel.source == parcel.to:
        return False
    if len(parcel.data) > MOST_BYTES or parcel.end > LAST_TIME:
        return False
    return is_count(parcel.number) and is_count(parcel.leg)


# None stands for what isn't kept.
def kept_from(message, plan):
    if len(message) != KEPT_SIZE or message[0] != KIND_KEPT or message[2] != 0 or message[3] != 0:
        return None
    kept = Kept(message[1], number_at(message, 4), number_at(message, 8))
    if plan.has_node(kept.source) and is_count(kept.number) and is_count(kept.leg):
        return kept
    return None


def is_count(number):
    return 1 <= number and number <= MOST_COUNT

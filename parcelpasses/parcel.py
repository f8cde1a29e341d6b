"""A parcel as a node holds it, and which of two is before the other."""

MOST_BYTES = 48


class Parcel:
    def __init__(self, source, number, to, end, data, leg=0):
        self.source = source
        self.number = number
        self.to = to
        self.end = end
        self.data = data
        self.leg = leg
        self.waits_till = 0

    def waits_at(self, time):
        return time < self.waits_till


# Source and number alone tell which parcel it is, wherever it is met: held, known, or in a message.
def key_of(parcel):
    return (parcel.source, parcel.number)


def rank(parcel):
    return (parcel.end, parcel.source, parcel.number)


def in_order(parcels):
    return sorted(parcels, key=rank)

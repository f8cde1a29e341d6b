"""Messages between nodes, as lists of bytes."""

KIND_PARCEL = 1


def four_bytes(number):
    return [number >> shift & 255 for shift in (0, 8, 16, 24)]


def parcel_message(parcel, leg):
    head = [KIND_PARCEL, parcel.source, parcel.to, len(parcel.data)]
    return head + four_bytes(parcel.number) + four_bytes(parcel.end) + four_bytes(leg) + parcel.data

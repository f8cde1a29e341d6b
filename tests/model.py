"""One node done over from the document's words, slowly: ways by trying every row of passes."""


def every_row(links, node, time, most):
    """Each row of at most so many passes: (when it arrives, how many passes, row, where)."""
    found = [(time, 0, (), node)]
    rows = [((), node, time)]
    for count in range(1, most + 1):
        longer = []
        for row, at, now in rows:
            for number, (a, b, takes, none, begins, ends) in enumerate(links):
                sending = max(now, begins)
                if at not in (a, b) or sending >= ends:
                    continue
                longer.append((row + (number,), a + b - at, sending + takes))
        found += [(now, count, row, at) for row, at, now in longer]
        rows = longer
    return found


def ways_by_trying(n, links, node, time):
    """Of each node that can be reached: when the way arrives there, and its first pass."""
    best = {}
    for arrives, count, row, at in every_row(links, node, time, n - 1):
        if at not in best or (arrives, count, row) < best[at]:
            best[at] = (arrives, count, row)
    return {at: (arrives, row[0] if row else None) for at, (arrives, count, row) in best.items()}


def some_links(source, n, count, latest):
    links = []
    for each in range(count):
        a = source.randrange(n)
        b = (a + source.randrange(1, n)) % n
        begins = source.choice((0, source.randrange(latest)))
        ends = begins + source.choice((1, source.randint(1, latest), 40))
        links.append([a, b, source.randint(1, source.choice((1, 2, 5))), 0, begins, ends])
    return links


def number_in(message, place):
    return int.from_bytes(bytes(message[place:place + 4]), "little")


def bytes_of(number):
    return list(number.to_bytes(4, "little"))


class Model:
    """A node with a plan that is as told. Each call answers what the program is to answer."""

    def __init__(self, n, me, links):
        self.n, self.me, self.links = n, me, links
        self.time, self.count = 0, 0
        self.held, self.arrived, self.known = [], [], []

    def find(self, rows, source, number):
        return [each for each in rows if each["source"] == source and each["number"] == number]

    def put(self, to, end, data=()):
        if to >= self.n or to == self.me or not self.time < end <= 1000000 or len(data) > 48:
            return [-22]
        if len(self.held) == 64:
            return [-28]
        self.count += 1
        self.held.append({"source": self.me, "number": self.count, "to": to, "end": end, "data": list(data),
                          "leg": 0, "till": 0})
        return [self.count]

    def tick(self):
        if self.time == 1000000:
            return [-34]
        self.time += 1
        for rows in (self.held, self.arrived, self.known):
            rows[:] = [each for each in rows if not each["end"] < self.time]
        ways = ways_by_trying(self.n, self.links, self.me, self.time)
        count, told = 0, []
        for number, (a, b, takes, none, begins, ends) in enumerate(self.links):
            fit = [each for each in self.held if self.fits(each, number, ways)]
            if self.me in (a, b) and begins <= self.time < ends and fit:
                first = min(fit, key=lambda each: (each["end"], each["source"], each["number"]))
                first["till"] = self.time + 2 * takes
                count += 1
                message = [1, first["source"], first["to"], len(first["data"])] + bytes_of(first["number"])
                message += bytes_of(first["end"]) + bytes_of(first["leg"] + 1) + first["data"]
                told += [number, len(message)] + message
        return [count] + told

    def fits(self, each, number, ways):
        if self.time < each["till"] or each["to"] not in ways:
            return False
        arrives, first = ways[each["to"]]
        return first == number and arrives <= each["end"]

    def heard(self, number, m):
        if number >= len(self.links) or self.me not in self.links[number][:2]:
            return [-22]
        if self.is_parcel(m):
            parcel = {"source": m[1], "to": m[2], "number": number_in(m, 4), "end": number_in(m, 8),
                      "leg": number_in(m, 12), "data": m[16:], "till": 0}
            done = self.heard_parcel(parcel)
            if done and self.links[number][4] <= self.time < self.links[number][5]:
                return [0, number, 12, 2, m[1], 0, 0] + m[4:8] + m[12:16]
            return [0]
        if self.is_kept(m):
            for each in self.find(self.held, m[1], number_in(m, 4)):
                if each["leg"] == number_in(m, 8) - 1:
                    self.held.remove(each)
            return [0]
        return [-71]

    def is_parcel(self, m):
        return (len(m) >= 16 and m[0] == 1 and m[1] < self.n and m[2] < self.n and m[1] != m[2] and m[3] <= 48
                and len(m) == 16 + m[3] and 1 <= number_in(m, 4) < 2 ** 31 and number_in(m, 8) <= 1000000
                and 1 <= number_in(m, 12) < 2 ** 31)

    def is_kept(self, m):
        return (len(m) == 12 and m[0] == 2 and m[1] < self.n and m[2:4] == [0, 0]
                and 1 <= number_in(m, 4) < 2 ** 31 and 1 <= number_in(m, 8) < 2 ** 31)

    def heard_parcel(self, parcel):
        """Whether it was more than nothing."""
        source, number = parcel["source"], parcel["number"]
        if parcel["end"] < self.time or source == self.me and number > self.count:
            return False
        if parcel["to"] == self.me:
            if self.find(self.known, source, number):
                return True
            if len(self.arrived) == 64 or len(self.known) == 256:
                return False
            self.arrived.append(parcel)
            self.known.append(parcel)
            return True
        for each in self.find(self.held, source, number):
            each["leg"] = max(each["leg"], parcel["leg"])
            return True
        if len(self.held) == 64:
            return False
        self.held.append(parcel)
        return True

    def read(self):
        if not self.arrived:
            return [0]
        first = self.arrived.pop(0)
        return [1 + len(first["data"]), first["source"], first["number"], first["end"]] + first["data"]

    def state(self):
        return [0, self.time, len(self.held), len(self.arrived), len(self.known)]

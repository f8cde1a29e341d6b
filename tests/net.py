"""Several nodes with one plan, and the messages between them."""

from lines import READ, STATE, TICK, Live, heard, messages_of, put, start


class Net:
    def __init__(self, n, links):
        self.links = links
        self.nodes = [Live(start(n, me, links)) for me in range(n)]
        self.put_ones = {}
        self.arrived_ones = {}
        self.read_ones = {}

    def time(self, me):
        return self.nodes[me].ask(STATE)[1]

    def put(self, me, to, end, data=()):
        """The source and number of what was put, or None."""
        number = self.nodes[me].ask(put(to, end, data))[0]
        if number < 0:
            return None
        self.put_ones[(me, number)] = (to, end, list(data), self.time(me))
        return (me, number)

    def told(self, me, answer):
        """What was sent, as (pass, to whom it comes, bytes)."""
        return [(number, sum(self.links[number][:2]) - me, message) for number, message in messages_of(answer)]

    def tick(self, me):
        answer = self.nodes[me].ask(TICK)
        return self.told(me, answer)

    def bring(self, message):
        number, me, its_bytes = message
        before = len(self.nodes[me].node.arrived)
        answer = self.nodes[me].ask(heard(number, its_bytes))
        assert answer[0] == 0, answer
        for each in self.nodes[me].node.arrived[before:]:
            self.arrived_ones.setdefault((each.source, each.number), []).append((me, self.time(me)))
        return self.told(me, answer)

    def read(self, me):
        answer = self.nodes[me].ask(READ)
        if answer[0] > 0:
            key = (answer[1], answer[2])
            self.read_ones.setdefault(key, []).append((me, answer[3], answer[4:]))

    def held_by(self, me):
        return {key: each.end for key, each in self.nodes[me].node.held.items()}

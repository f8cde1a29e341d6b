"""The calls on one node, and their answers, as one list of whole numbers each."""

from parcelpasses.node import DONE, NOT_AS_TOLD, Node
from parcelpasses.plan import plan_of

CALL_START = 0
CALL_PUT = 1
CALL_TICK = 2
CALL_HEARD = 3
CALL_READ = 4
CALL_STATE = 5


class UnknownCall(ValueError):
    pass


class Line:
    def __init__(self, calls):
        self.calls = calls
        self.place = 0
        self.node = None

    def has_more(self):
        return self.place < len(self.calls)

    def take_number(self):
        number = self.calls[self.place]
        self.place = self.place + 1
        return number

    def take_row(self):
        count = self.take_number()
        row = self.calls[self.place:self.place + count]
        self.place = self.place + count
        return row

    def answer_call(self):
        call = self.take_number()
        if call == CALL_START:
            return self.answer_start()
        if call == CALL_PUT:
            return self.answer_put()
        if call == CALL_TICK:
            return self.node.tick()
        if call == CALL_HEARD:
            return self.answer_heard()
        if call == CALL_READ:
            return self.node.read()
        if call == CALL_STATE:
            return self.node.state()
        raise UnknownCall(f"no such call: {call}")

    def answer_start(self):
        node_count = self.take_number()
        me = self.take_number()
        plan = plan_of(node_count, self.take_row())
        if plan is None or not plan.has_node(me):
            return [NOT_AS_TOLD]
        self.node = Node(plan, me)
        return [DONE]

    def answer_put(self):
        to = self.take_number()
        end = self.take_number()
        return self.node.put(to, end, self.take_row())

    def answer_heard(self):
        pass_number = self.take_number()
        return self.node.hear(pass_number, self.take_row())


def answers(calls):
    line = Line(calls)
    told = []
    while line.has_more():
        answer = line.answer_call()
        told.append(len(answer))
        told.extend(answer)
    return told

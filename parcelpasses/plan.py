"""What a plan is: its nodes, and the passes between them."""

LEAST_NODES = 2
MOST_NODES = 32
MOST_PASSES = 128
LAST_TIME = 1000000
LEAST_TAKES = 1
MOST_TAKES = 255
NUMBERS_OF_A_PASS = 6


class Pass:
    def __init__(self, number, told):
        self.number = number
        self.a = told[0]
        self.b = told[1]
        self.takes = told[2]
        self.begins = told[4]
        self.ends = told[5]

    def joins(self, node):
        return node == self.a or node == self.b

    def other_end(self, node):
        if node == self.a:
            return self.b
        return self.a

    def is_open_at(self, time):
        return self.begins <= time and time < self.ends

    def soonest_sending(self, time):
        return max(time, self.begins)


class Plan:
    def __init__(self, node_count, passes):
        self.node_count = node_count
        self.passes = passes
        self.passes_of = [passes_at(passes, node) for node in range(node_count)]

    def has_node(self, node):
        return node < self.node_count


def passes_at(passes, node):
    return [each for each in passes if each.joins(node)]


def split_passes(numbers):
    return [numbers[k:k + NUMBERS_OF_A_PASS] for k in range(0, len(numbers), NUMBERS_OF_A_PASS)]


def is_pass(node_count, told):
    a = told[0]
    b = told[1]
    takes = told[2]
    none = told[3]
    begins = told[4]
    ends = told[5]
    if a >= node_count or b >= node_count or a == b:
        return False
    if takes < LEAST_TAKES or takes > MOST_TAKES or none != 0:
        return False
    return begins < ends and ends <= LAST_TIME


def is_plan(node_count, passes_told):
    if node_count < LEAST_NODES or node_count > MOST_NODES:
        return False
    if len(passes_told) > MOST_PASSES:
        return False
    return all([is_pass(node_count, told) for told in passes_told])


# None stands for a plan that isn't as told, so that the caller can refuse it and keep what it has.
def plan_of(node_count, numbers):
    passes_told = split_passes(numbers)
    if not is_plan(node_count, passes_told):
        return None
    return Plan(node_count, [Pass(number, told) for number, told in enumerate(passes_told)])

"""The desk: takes the calls on one new net as a list of numbers and gives back what they answer."""

from netflows.cheapest import least_cost
from netflows.checks import is_flow, prices_go_with
from netflows.flows import cost_of, greatest_value, smallest_cut, value_of
from netflows.net import Net, REFUSED, are_two_nodes

ARC = 1
DROP = 2
MOST = 3
CUT = 4
CHEAPEST = 5
FLOW = 6
PROVES = 7

NO_SUCH_FLOW = -2


class Reader:
    """Takes numbers from a list one behind another and leaves the list as it is."""

    def __init__(self, numbers):
        self.numbers = numbers
        self.place = 0

    def has_more(self):
        return self.place < len(self.numbers)

    def take(self):
        number = self.numbers[self.place]
        self.place = self.place + 1
        return number

    def take_row(self):
        """The numbers of a row, which has how many they are before it."""
        length = self.take()
        row = self.numbers[self.place:self.place + length]
        self.place = self.place + length
        return row


def answers(calls):
    """For each call, in order: how many numbers it answers, then these numbers."""
    net = Net()
    reader = Reader(calls)
    told = []
    while reader.has_more():
        answer = answer_next(net, reader)
        told.append(len(answer))
        told.extend(answer)
    return told


def answer_next(net, reader):
    """What the next call answers, as a list."""
    call = reader.take()
    if call == ARC:
        return answer_arc(net, reader)
    if call == DROP:
        return [net.drop_arc()]
    if call == MOST:
        return answer_most(net, reader)
    if call == CUT:
        return answer_cut(net, reader)
    if call == CHEAPEST:
        return answer_cheapest(net, reader)
    if call == FLOW:
        return answer_flow(net, reader)
    if call == PROVES:
        return answer_proves(net, reader)
    raise ValueError(f"no call has the number {call}")


def answer_arc(net, reader):
    origin = reader.take()
    goal = reader.take()
    capacity = reader.take()
    cost = reader.take()
    return [net.add_arc(origin, goal, capacity, cost)]


def answer_most(net, reader):
    s = reader.take()
    t = reader.take()
    if not are_two_nodes(s, t):
        return [REFUSED]
    return [greatest_value(net.arcs, s, t)]


def answer_cut(net, reader):
    s = reader.take()
    t = reader.take()
    if not are_two_nodes(s, t):
        return [REFUSED]
    return [0, smallest_cut(net.arcs, s, t)]


def answer_cheapest(net, reader):
    s = reader.take()
    t = reader.take()
    value = reader.take()
    if not are_two_nodes(s, t) or value < 0:
        return [REFUSED]
    if value > greatest_value(net.arcs, s, t):
        return [NO_SUCH_FLOW]
    return [0, least_cost(net.arcs, s, t, value)]


def answer_flow(net, reader):
    s = reader.take()
    t = reader.take()
    amounts = reader.take_row()
    if not are_two_nodes(s, t):
        return [REFUSED]
    if not is_flow(net.arcs, amounts, s, t):
        return [0]
    return [1, value_of(net.arcs, amounts, s), cost_of(net.arcs, amounts)]


def answer_proves(net, reader):
    s = reader.take()
    t = reader.take()
    amounts = reader.take_row()
    prices = reader.take_row()
    if not are_two_nodes(s, t):
        return [REFUSED]
    proven = is_flow(net.arcs, amounts, s, t) and prices_go_with(net.arcs, amounts, prices, s)
    return [1 if proven else 0]

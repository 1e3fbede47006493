"""The desk: takes the calls on one new net as a list of numbers and gives back what they answer."""

from netflows.flows import greatest_value, smallest_cut
from netflows.net import Net, REFUSED, are_two_nodes

ARC = 1
DROP = 2
MOST = 3
CUT = 4


class Reader:
    """Takes numbers from a list one behind another and leaves the list as it is."""

    def __init__(self, numbers):
        self.numbers = numbers
        self.place = 0

    def has_more(self):
        return self.place < len(self.numbers)

    def take(self):
        number = self.numbers[self.place]
        self.place = self.place + 1
        return number


def answers(calls):
    """For each call, in order: how many numbers it answers, then these numbers."""
    net = Net()
    reader = Reader(calls)
    told = []
    while reader.has_more():
        answer = answer_next(net, reader)
        told.append(len(answer))
        told.extend(answer)
    return told


def answer_next(net, reader):
    """What the next call answers, as a list."""
    call = reader.take()
    if call == ARC:
        return answer_arc(net, reader)
    if call == DROP:
        return [net.drop_arc()]
    if call == MOST:
        return answer_most(net, reader)
    if call == CUT:
        return answer_cut(net, reader)
    raise NotImplementedError(f"call {call}")


def answer_arc(net, reader):
    origin = reader.take()
    goal = reader.take()
    capacity = reader.take()
    cost = reader.take()
    return [net.add_arc(origin, goal, capacity, cost)]


def answer_most(net, reader):
    s = reader.take()
    t = reader.take()
    if not are_two_nodes(s, t):
        return [REFUSED]
    return [greatest_value(net.arcs, s, t)]


def answer_cut(net, reader):
    s = reader.take()
    t = reader.take()
    if not are_two_nodes(s, t):
        return [REFUSED]
    return [0, smallest_cut(net.arcs, s, t)]

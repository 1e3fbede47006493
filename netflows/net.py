"""A net: its arcs, and what an arc and two nodes must be."""

REFUSED = -1
NODES = 64
MOST_ARCS = 512
MOST_CAPACITY = 1000000000
MOST_COST = 1000000


class Arc:
    """An arc from origin to goal, with its capacity and the cost of each unit that goes along."""

    def __init__(self, origin, goal, capacity, cost):
        self.origin = origin
        self.goal = goal
        self.capacity = capacity
        self.cost = cost


class Net:
    """The arcs of one net, in the order in which they came: an arc's number is its place."""

    def __init__(self):
        self.arcs = []

    def add_arc(self, origin, goal, capacity, cost):
        """The number of the new arc, or REFUSED."""
        if not are_two_nodes(origin, goal) or not are_within_bounds(capacity, cost):
            return REFUSED
        if len(self.arcs) >= MOST_ARCS:
            return REFUSED
        self.arcs.append(Arc(origin, goal, capacity, cost))
        return len(self.arcs) - 1

    def drop_arc(self):
        """How many arcs are left without the last one, or REFUSED."""
        if len(self.arcs) == 0:
            return REFUSED
        self.arcs.pop()
        return len(self.arcs)


def are_two_nodes(first, second):
    """Whether both are nodes, and not the same one."""
    return is_node(first) and is_node(second) and first != second


def is_node(number):
    return 0 <= number < NODES


def are_within_bounds(capacity, cost):
    return 0 <= capacity <= MOST_CAPACITY and -MOST_COST <= cost <= MOST_COST

"""Flows with their value and cost, the greatest one, and the smallest set of nodes that cuts it off.

A flow is a list of amounts, one for each arc, in the arcs' order.
"""


def greatest_value(arcs, s, t):
    """The greatest value of a flow from s to t."""
    return value_of(arcs, greatest_flow(arcs, s, t), s)


def smallest_cut(arcs, s, t):
    """The cut that lies within every other one of least capacity, with bit i for node i.

    What a greatest flow leaves reachable from s is in every such cut, whichever greatest flow it is.
    """
    bits = 0
    for node in ways_from(arcs, greatest_flow(arcs, s, t), s):
        bits = bits | (1 << node)
    return bits


def value_of(arcs, amounts, node):
    """What goes out of the node less what comes in."""
    value = 0
    for arc, amount in zip(arcs, amounts):
        if arc.origin == node:
            value = value + amount
        if arc.goal == node:
            value = value - amount
    return value


def cost_of(arcs, amounts):
    return sum([amount * arc.cost for arc, amount in zip(arcs, amounts)])


def greatest_flow(arcs, s, t):
    """The amounts of a flow from s to t of the greatest value."""
    amounts = [0 for arc in arcs]
    ways = ways_from(arcs, amounts, s)
    while t in ways:
        steps = steps_to(arcs, ways, t)
        amounts = sent_along(amounts, steps, room_along(arcs, amounts, steps))
        ways = ways_from(arcs, amounts, s)
    return amounts


def ways_from(arcs, amounts, s):
    """The nodes that more can be sent to from s, each with the number of the arc it is reached by (None for s).

    Nearer nodes come first: ways of the fewest steps keep the number of ways small, however great capacities are.
    """
    ways = {s: None}
    waiting = [s]
    place = 0
    while place < len(waiting):
        for number, arc in enumerate(arcs):
            far = far_end(arc, amounts[number], waiting[place])
            if far is not None and far not in ways:
                ways[far] = number
                waiting.append(far)
        place = place + 1
    return ways


def far_end(arc, amount, node):
    """Where a unit more can go from node by this arc, or None.

    What was sent can be taken back, so an arc that carries something leads from its goal to its origin too.
    """
    if arc.origin == node and amount < arc.capacity:
        return arc.goal
    if arc.goal == node and amount > 0:
        return arc.origin
    return None


def steps_to(arcs, ways, t):
    """The steps of the way to t, the last one first: an arc's number, and whether it is gone along forwards."""
    steps = []
    node = t
    while ways[node] is not None:
        number = ways[node]
        forwards = arcs[number].goal == node
        steps.append((number, forwards))
        node = arcs[number].origin if forwards else arcs[number].goal
    return steps


def room_along(arcs, amounts, steps):
    """How much more can be sent along all of these steps."""
    return min([room(arcs[number], amounts[number], forwards) for number, forwards in steps])


def room(arc, amount, forwards):
    return arc.capacity - amount if forwards else amount


def sent_along(amounts, steps, more):
    """The amounts after so much more is sent along these steps."""
    changed = list(amounts)
    for number, forwards in steps:
        changed[number] = changed[number] + (more if forwards else -more)
    return changed

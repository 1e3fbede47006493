"""The least cost of a flow of a given value.

While no circle of steps with room costs less than 0, no flow of the same value is cheaper, and sending more along a
cheapest way leaves it so. The arcs are therefore taken in one by one, and then what is asked for is sent from s to t.
"""

from netflows.flows import cost_of, room_along, sent_along, steps_to


def least_cost(arcs, s, t, value):
    """The least cost of a flow from s to t of this value, which is not above the greatest one."""
    amounts = [0 for arc in arcs]
    for number in range(len(arcs)):
        amounts = with_arc_taken_in(arcs, amounts, number)
    return cost_of(arcs, with_value_sent(arcs, amounts, s, t, value))


def with_arc_taken_in(arcs, amounts, number):
    """The cheapest amounts of value 0 for the arcs up to this one, from those for the arcs before it."""
    arc = arcs[number]
    earlier = arcs[:number]
    while amounts[number] < arc.capacity:
        ways = cheapest_ways(earlier, amounts, arc.goal)
        if arc.origin not in ways:
            return amounts
        steps = steps_to(earlier, ways, arc.origin) + [(number, True)]
        if cost_along(arcs, steps) >= 0:
            return amounts
        amounts = sent_along(amounts, steps, room_along(arcs, amounts, steps))
    return amounts


def with_value_sent(arcs, amounts, s, t, value):
    """The amounts after so much more is sent from s to t, always along a cheapest way."""
    left = value
    while left > 0:
        steps = steps_to(arcs, cheapest_ways(arcs, amounts, s), t)
        more = min(left, room_along(arcs, amounts, steps))
        amounts = sent_along(amounts, steps, more)
        left = left - more
    return amounts


def cheapest_ways(arcs, amounts, s):
    """The nodes that more can be sent to from s, each with the number of the arc it is reached by (None for s).

    Of ways that cost the same, those of the fewest steps keep the number of ways small, however great capacities are.
    """
    steps = steps_with_room(arcs, amounts)
    ways = {s: None}
    lengths = {s: (0, 0)}
    shortened = True
    while shortened:
        shortened = False
        for near, far, cost, number in steps:
            if near not in lengths:
                continue
            length = (lengths[near][0] + cost, lengths[near][1] + 1)
            if far not in lengths or length < lengths[far]:
                lengths[far] = length
                ways[far] = number
                shortened = True
    return ways


def steps_with_room(arcs, amounts):
    """Every step that has room: where it is from and to, what a unit costs, and the arc's number."""
    steps = []
    for number, arc in enumerate(arcs):
        if amounts[number] < arc.capacity:
            steps.append((arc.origin, arc.goal, arc.cost, number))
        if amounts[number] > 0:
            steps.append((arc.goal, arc.origin, -arc.cost, number))
    return steps


def cost_along(arcs, steps):
    """What a unit costs that is sent along these steps; what is taken back gives its cost back."""
    return sum([arcs[number].cost if forwards else -arcs[number].cost for number, forwards in steps])

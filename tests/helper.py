"""What the tests share: calls written by name, answers taken apart, and slow answers straight from the definitions."""

from itertools import combinations, product

from netflows.desk import answers

LEAST = -2147483648
GREATEST = 2147483647
LEAST_64 = -9223372036854775808
GREATEST_64 = 9223372036854775807

# Pairs that are not two nodes.
NO_TWO_NODES = [
    (-1, 1), (1, -1), (64, 1), (1, 64), (0, 0), (5, 5), (63, 63), (-1, -1), (64, 64),
    (LEAST, 1), (1, LEAST), (GREATEST, 1), (1, GREATEST), (LEAST, GREATEST),
]


def arc(origin, goal, capacity=1, cost=0):
    return [1, origin, goal, capacity, cost]


def drop():
    return [2]


def most(s, t):
    return [3, s, t]


def cut(s, t):
    return [4, s, t]


def cheapest(s, t, amount):
    return [5, s, t, amount]


def flow(s, t, amounts):
    return [6, s, t, len(amounts), *amounts]


def proves(s, t, amounts, prices):
    return [7, s, t, len(amounts), *amounts, len(prices), *prices]


def bits(*nodes):
    return sum(1 << node for node in nodes)


def ask(*calls):
    """What each call answers, a list for each."""
    told = answers([number for call in calls for number in call])
    parts = []
    while told:
        parts.append(told[1:1 + told[0]])
        if len(parts[-1]) != told[0]:
            raise AssertionError("an answer is shorter than its count says")
        told = told[1 + told[0]:]
    return parts


def ask_last(*calls):
    return ask(*calls)[-1]


def value(arcs, amounts, node):
    """What goes out of the node less what comes in."""
    goes_out = sum(amount for a, amount in zip(arcs, amounts) if a[0] == node)
    comes_in = sum(amount for a, amount in zip(arcs, amounts) if a[1] == node)
    return goes_out - comes_in


def cost(arcs, amounts):
    """The sum of all amounts times their arcs' costs; arcs are (origin, goal, capacity, cost)."""
    return sum(amount * a[3] for a, amount in zip(arcs, amounts))


def every_list_of_amounts(arcs):
    return product(*[range(a[2] + 1) for a in arcs])


def every_flow(arcs, s, t):
    """Every list of amounts that is a flow; arcs are (origin, goal, capacity, ...)."""
    between = {node for a in arcs for node in a[:2]} - {s, t}
    for amounts in every_list_of_amounts(arcs):
        if all(value(arcs, amounts, node) == 0 for node in between):
            yield amounts


def most_by_trying_amounts(arcs, s, t):
    """The greatest value over every list of amounts that is a flow."""
    return max(value(arcs, amounts, s) for amounts in every_flow(arcs, s, t))


def least_costs_by_trying_amounts(arcs, s, t):
    """For each value that a flow has, the least cost over every list of amounts that is a flow of it."""
    least = {}
    for amounts in every_flow(arcs, s, t):
        reached = value(arcs, amounts, s)
        least[reached] = min(cost(arcs, amounts), least.get(reached, cost(arcs, amounts)))
    return least


def mixed_net(chance, nodes, count, capacity, unit_cost):
    """Arcs between chance pairs of these nodes, with capacities and costs up to the ones told."""
    return [
        (*chance.sample(nodes, 2), chance.randint(0, capacity), chance.randint(-unit_cost, unit_cost))
        for number in range(count)]


def cut_by_trying_sets(arcs, s, t):
    """The least capacity of a set with s and without t, and the set of nodes that all such sets share."""
    others = sorted({node for a in arcs for node in a[:2]} - {s, t})
    least = None
    shared = set()
    for size in range(len(others) + 1):
        for chosen in combinations(others, size):
            inside = {s, *chosen}
            capacity = sum(a[2] for a in arcs if a[0] in inside and a[1] not in inside)
            if least is None or capacity < least:
                least = capacity
                shared = inside
            elif capacity == least:
                shared = shared & inside
    return least, bits(*shared)

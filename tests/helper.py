"""What the tests share: calls written by name, answers taken apart, and slow answers straight from the definitions."""

from itertools import combinations, product

from netflows.desk import answers

LEAST = -2147483648
GREATEST = 2147483647
LEAST_64 = -9223372036854775808
GREATEST_64 = 9223372036854775807

# Pairs that are not two nodes.
NO_TWO_NODES = [
    (-1, 1), (1, -1), (64, 1), (1, 64), (0, 0), (5, 5), (63, 63), (-1, -1), (64, 64),
    (LEAST, 1), (1, LEAST), (GREATEST, 1), (1, GREATEST), (LEAST, GREATEST),
]


def arc(origin, goal, capacity=1, cost=0):
    return [1, origin, goal, capacity, cost]


def drop():
    return [2]


def most(s, t):
    return [3, s, t]


def cut(s, t):
    return [4, s, t]


def bits(*nodes):
    return sum(1 << node for node in nodes)


def ask(*calls):
    """What each call answers, a list for each."""
    told = answers([number for call in calls for number in call])
    parts = []
    while told:
        parts.append(told[1:1 + told[0]])
        if len(parts[-1]) != told[0]:
            raise AssertionError("an answer is shorter than its count says")
        told = told[1 + told[0]:]
    return parts


def ask_last(*calls):
    return ask(*calls)[-1]


def value(arcs, amounts, node):
    """What goes out of the node less what comes in."""
    goes_out = sum(amount for a, amount in zip(arcs, amounts) if a[0] == node)
    comes_in = sum(amount for a, amount in zip(arcs, amounts) if a[1] == node)
    return goes_out - comes_in


def most_by_trying_amounts(arcs, s, t):
    """The greatest value over every list of amounts that is a flow; arcs are (origin, goal, capacity)."""
    between = {node for a in arcs for node in a[:2]} - {s, t}
    return max(
        value(arcs, amounts, s)
        for amounts in product(*[range(a[2] + 1) for a in arcs])
        if all(value(arcs, amounts, node) == 0 for node in between)
    )


def cut_by_trying_sets(arcs, s, t):
    """The least capacity of a set with s and without t, and the set of nodes that all such sets share."""
    others = sorted({node for a in arcs for node in a[:2]} - {s, t})
    least = None
    shared = set()
    for size in range(len(others) + 1):
        for chosen in combinations(others, size):
            inside = {s, *chosen}
            capacity = sum(a[2] for a in arcs if a[0] in inside and a[1] not in inside)
            if least is None or capacity < least:
                least = capacity
                shared = inside
            elif capacity == least:
                shared = shared & inside
    return least, bits(*shared)

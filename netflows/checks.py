"""Whether amounts are a flow, and whether prices of nodes go with them."""

from netflows.flows import value_of
from netflows.net import NODES

MOST_PRICE = 1000000000000


def is_flow(arcs, amounts, s, t):
    """Whether the amounts, one for each arc in order, are a flow from s to t."""
    if len(amounts) != len(arcs):
        return False
    if not are_within_capacities(arcs, amounts):
        return False
    return all([value_of(arcs, amounts, node) == 0 for node in range(NODES) if node != s and node != t])


def are_within_capacities(arcs, amounts):
    return all([0 <= amount <= arc.capacity for arc, amount in zip(arcs, amounts)])


def prices_go_with(arcs, amounts, prices, s):
    """Whether the prices, node by node from 0 on, go with the amounts, one for each arc in order."""
    told = every_price(prices)
    if told[s] != 0 or not are_prices_within_bounds(told):
        return False
    return all([is_cost_fitting(arc, amount, told) for arc, amount in zip(arcs, amounts)])


def every_price(prices):
    """The prices of all nodes: those not told are 0."""
    return prices + [0 for node in range(len(prices), NODES)]


def are_prices_within_bounds(prices):
    return all([-MOST_PRICE <= price <= MOST_PRICE for price in prices])


def is_cost_fitting(arc, amount, prices):
    """Whether the arc costs neither too little to be left with room nor too much to be gone along."""
    rise = prices[arc.goal] - prices[arc.origin]
    if amount < arc.capacity and arc.cost < rise:
        return False
    return amount == 0 or arc.cost <= rise

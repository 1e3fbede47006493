"""Points 2 and 7: proves."""

import unittest
from itertools import product
from random import Random

from tests.helper import GREATEST, GREATEST_64, LEAST, LEAST_64, NO_TWO_NODES
from tests.helper import arc, ask, ask_last, cheapest, cost, cut, drop, every_flow, flow
from tests.helper import least_costs_by_trying_amounts, mixed_net, most, proves, value

BILLION = 1000000000
MILLION = 1000000
MOST_PRICE = 1000000000000

# The way 0 1 3 costs 11, the way 0 2 3 costs 22, and the way 0 1 2 3 costs 30.
NET = [arc(0, 1, 5, 10), arc(0, 2, 4, 20), arc(1, 2, 3, 18), arc(1, 3, 5, 1), arc(2, 3, 6, 2)]


def prices_at(**prices):
    """A price for each of the 64 nodes, 0 but for those told as n5=7."""
    return [prices.get(f"n{node}", 0) for node in range(64)]


def cheapest_prices(arcs, amounts, s):
    """Prices that go with the amounts wherever there are any: what a unit more would cost at each node.

    A node that nothing can be sent to is given a price above that of every way, so that its arcs stand against it.
    """
    prices = [100 * MILLION for node in range(64)]
    prices[s] = 0
    for turn in range(64):
        for (origin, goal, capacity, unit_cost), amount in zip(arcs, amounts):
            if amount < capacity:
                prices[goal] = min(prices[goal], prices[origin] + unit_cost)
            if amount > 0:
                prices[origin] = min(prices[origin], prices[goal] - unit_cost)
    return prices


def goes_with(arcs, amounts, prices, s):
    """The conditions on the prices, word by word."""
    every = prices + [0] * (64 - len(prices))
    conditions = [every[s] == 0]
    conditions += [-MOST_PRICE <= price <= MOST_PRICE for price in every]
    for (origin, goal, capacity, unit_cost), amount in zip(arcs, amounts):
        if amount < capacity:
            conditions.append(unit_cost >= every[goal] - every[origin])
        if amount != 0:
            conditions.append(unit_cost <= every[goal] - every[origin])
    return all(conditions)


class ProvesTest(unittest.TestCase):
    def check(self, amounts, prices, told):
        self.assertEqual(ask_last(*NET, proves(0, 3, amounts, prices)), [told])

    def test_prices_that_go_with_amounts(self):
        self.check([0, 0, 0, 0, 0], [], 1)
        self.check([0, 0, 0, 0, 0], [0, 10, 20, 11], 1)
        self.check([2, 0, 0, 2, 0], [0, 10, 9, 11], 1)
        self.check([2, 0, 0, 2, 0], [0, 10, 20, 11], 1)
        self.check([5, 2, 0, 5, 2], [0, 10, 20, 22], 1)
        self.check([5, 2, 0, 5, 2], [0, 21, 20, 22], 1)
        self.check([5, 4, 0, 5, 4], [0, 40, 50, 52], 1)

    def test_the_price_of_s(self):
        self.check([2, 0, 0, 2, 0], [0, 10, 9, 11], 1)
        self.check([2, 0, 0, 2, 0], [1, 11, 10, 12], 0)
        self.check([2, 0, 0, 2, 0], [-1, 9, 8, 10], 0)
        self.assertEqual(ask_last(proves(0, 1, [], [1])), [0])
        self.assertEqual(ask_last(proves(0, 1, [], [-1])), [0])
        self.assertEqual(ask_last(proves(0, 1, [], [0, 1])), [1])
        for s in range(64):
            others = [7] * s + [0] + [7] * (63 - s)
            one_off = [7] * s + [1] + [7] * (63 - s)
            t = (s + 1) % 64
            self.assertEqual(ask(proves(s, t, [], others), proves(s, t, [], one_off)), [[1], [0]])

    def test_a_price_outside_its_bounds(self):
        for node in range(1, 64):
            for price in [MOST_PRICE, -MOST_PRICE]:
                self.assertEqual(ask(proves(0, 1, [], [0] * node + [price])), [[1]])
            for price in [MOST_PRICE + 1, -MOST_PRICE - 1, LEAST_64, GREATEST_64, 2 ** 62, 2 ** 40, -2 ** 40]:
                self.assertEqual(ask(proves(0, 1, [], [0] * node + [price])), [[0]])

    def test_a_price_outside_its_bounds_at_a_node_that_no_arc_touches(self):
        for node in [4, 5, 62, 63]:
            name = f"n{node}"
            prices = {"n1": 10, "n2": 9, "n3": 11}
            self.check([2, 0, 0, 2, 0], prices_at(**prices, **{name: MOST_PRICE}), 1)
            self.check([2, 0, 0, 2, 0], prices_at(**prices, **{name: -MOST_PRICE}), 1)
            self.check([2, 0, 0, 2, 0], prices_at(**prices, **{name: MOST_PRICE + 1}), 0)
            self.check([2, 0, 0, 2, 0], prices_at(**prices, **{name: -MOST_PRICE - 1}), 0)

    def test_a_price_outside_its_bounds_that_an_arc_would_bear(self):
        full = [arc(0, 1, 2, 5)]
        told = ask(*full, proves(0, 1, [2], [0, MOST_PRICE]), proves(0, 1, [2], [0, MOST_PRICE + 1]))
        self.assertEqual(told[1:], [[1], [0]])
        told = ask(*full, proves(0, 1, [0], [0, -MOST_PRICE]), proves(0, 1, [0], [0, -MOST_PRICE - 1]))
        self.assertEqual(told[1:], [[1], [0]])

    def test_an_arc_below_its_capacity_that_costs_too_little(self):
        self.assertEqual(ask(arc(0, 1, 2, 5), proves(0, 1, [0], [0, 5]), proves(0, 1, [0], [0, 6]))[1:], [[1], [0]])
        self.assertEqual(ask(arc(0, 1, 2, 5), proves(0, 1, [1], [0, 5]), proves(0, 1, [1], [0, 6]))[1:], [[1], [0]])
        self.assertEqual(ask(arc(0, 1, 2, 5), proves(0, 1, [2], [0, 5]), proves(0, 1, [2], [0, 6]))[1:], [[1], [1]])
        self.check([2, 0, 0, 2, 0], [0, 10, 21, 11], 0)
        self.check([2, 0, 0, 2, 0], [0, 10, 8, 11], 0)

    def test_an_arc_with_an_amount_that_costs_too_much(self):
        self.assertEqual(ask(arc(0, 1, 2, 5), proves(0, 1, [2], [0, 5]), proves(0, 1, [2], [0, 4]))[1:], [[1], [0]])
        self.assertEqual(ask(arc(0, 1, 2, 5), proves(0, 1, [1], [0, 5]), proves(0, 1, [1], [0, 4]))[1:], [[1], [0]])
        self.assertEqual(ask(arc(0, 1, 2, 5), proves(0, 1, [0], [0, 5]), proves(0, 1, [0], [0, 4]))[1:], [[1], [1]])
        self.check([5, 2, 0, 5, 2], [0, 9, 20, 22], 0)
        self.check([5, 2, 0, 5, 2], [0, 22, 20, 22], 0)

    def test_the_price_of_the_end_less_that_of_the_beginning(self):
        net = [arc(1, 2, 2, 5)]
        told = ask(
            *net, proves(1, 2, [1], [9, 0, 5]), proves(1, 2, [1], [9, 0, -5]), proves(2, 1, [1], [9, -5]),
            proves(2, 1, [1], [9, 5]), proves(0, 3, [0], [0, 100, 105]), proves(0, 3, [0], [0, 100, 106]),
            proves(0, 3, [0], [0, -100, -95]), proves(0, 3, [0], [0, -100, -94]))
        self.assertEqual(told[1:], [[1], [0], [1], [0], [1], [0], [1], [0]])

    def test_costs_below_0(self):
        told = ask(
            arc(0, 1, 2, -5), proves(0, 1, [1], [0, -5]), proves(0, 1, [1], [0, -4]), proves(0, 1, [1], [0, -6]),
            proves(0, 1, [0], [0, -6]), proves(0, 1, [0], [0, -4]), proves(0, 1, [2], [0, -4]),
            proves(0, 1, [2], [0, -6]), proves(0, 1, [0], []), proves(0, 1, [2], []))
        self.assertEqual(told[1:], [[1], [0], [0], [1], [0], [1], [0], [0], [1]])

    def test_an_arc_without_capacity(self):
        net = [arc(0, 1, 0, 5), arc(0, 1, 0, -5)]
        for price in [MOST_PRICE, 6, 5, 0, -5, -6, -MOST_PRICE]:
            self.assertEqual(ask_last(*net, proves(0, 1, [0, 0], [0, price])), [1])

    def test_one_of_several_arcs(self):
        net = [arc(0, 1, 2, 3), arc(0, 1, 2, 5), arc(0, 1, 2, 7)]
        for amounts, right in [([2, 1, 0], [5]), ([2, 2, 0], [5, 6, 7]), ([2, 0, 0], [3, 4, 5]), ([1, 1, 0], []),
                               ([2, 2, 1], [7]), ([2, 0, 1], []), ([1, 0, 0], [3]), ([0, 0, 0], [1, 2, 3])]:
            for price in range(1, 8):
                told = ask_last(*net, proves(0, 1, amounts, [0, price]))
                self.assertEqual(told, [1 if price in right else 0], (amounts, price))

    def test_amounts_that_are_no_flow(self):
        # The prices go with all of these amounts.
        net = [arc(0, 1, 5, 3), arc(1, 2, 5, 4)]
        told = ask(
            *net, proves(0, 2, [1, 1], [0, 3, 7]), proves(0, 2, [2, 1], [0, 3, 7]), proves(0, 2, [1, 2], [0, 3, 7]),
            proves(0, 2, [-1, -1], [0, 3, 7]), proves(0, 2, [6, 6], [0, 3, 7]), proves(0, 2, [5, 5], [0, 3, 7]))
        self.assertEqual(told[2:], [[1], [0], [0], [0], [0], [1]])

    def test_amounts_at_the_ends_of_the_range(self):
        for amount in [LEAST_64, GREATEST_64, LEAST, GREATEST, 2 ** 32, -2 ** 32, BILLION + 1]:
            net = [arc(0, 1, BILLION, 3), arc(1, 2, BILLION, 4)]
            self.assertEqual(ask_last(*net, proves(0, 2, [amount, amount], [0, 3, 7])), [0])
            self.assertEqual(ask_last(*net, proves(0, 2, [amount] * 40, [amount] * 64)), [0])

    def test_more_or_fewer_amounts_than_arcs(self):
        for length in range(41):
            self.check([0] * length, [], 1 if length == 5 else 0)
            self.assertEqual(ask(proves(0, 3, [0] * length, [])), [[1 if length == 0 else 0]])
        self.check([2, 0, 0, 2], [0, 10, 9, 11], 0)
        self.check([2, 0, 0, 2, 0, 0], [0, 10, 9, 11], 0)

    def test_prices_not_told_are_0(self):
        net = [arc(0, 1, 5, 3), arc(1, 2, 5, -3)]
        told = ask(
            *net, proves(0, 2, [2, 2], [0, 3]), proves(0, 2, [2, 2], [0, 3, 0]), proves(0, 2, [2, 2], [0, 3, 1]),
            proves(0, 2, [2, 2], [0]), proves(0, 2, [2, 2], []), proves(0, 2, [2, 2], prices_at(n1=3)))
        self.assertEqual(told[2:], [[1], [1], [0], [0], [0], [1]])
        self.assertEqual(ask_last(arc(63, 5, 5, 0), proves(63, 5, [2], [])), [1])
        self.assertEqual(ask_last(arc(63, 5, 5, 0), proves(63, 5, [2], [7, 7])), [1])
        self.assertEqual(ask_last(arc(63, 5, 5, 7), proves(63, 5, [2], [0, 0, 0, 0, 0, 7])), [1])

    def test_all_64_prices(self):
        net = [arc(0, 63, 5, 3)]
        told = ask(
            *net, proves(0, 63, [2], prices_at(n63=3)), proves(0, 63, [2], prices_at(n63=2)),
            proves(0, 63, [2], prices_at(n63=4)), proves(0, 63, [2], prices_at(n62=3)))
        self.assertEqual(told[1:], [[1], [0], [0], [0]])
        for length in range(65):
            self.assertEqual(ask(proves(0, 1, [], [0] * length), proves(0, 1, [], [1] * length)),
                             [[1], [1 if length == 0 else 0]])

    def test_flows_of_a_value_below_0_and_circles(self):
        self.assertEqual(ask_last(arc(1, 0, 5, 2), proves(0, 1, [3], [0, -2])), [1])
        net = [arc(5, 6, 5, -3), arc(6, 5, 3, 1)]
        told = ask(
            *net, proves(0, 1, [3, 3], [0, 0, 0, 0, 0, 0, -3]), proves(0, 1, [0, 0], [0, 0, 0, 0, 0, 0, -3]),
            proves(0, 1, [3, 3], [0, 0, 0, 0, 0, 4, 1]), proves(0, 1, [2, 2], [0, 0, 0, 0, 0, 0, -3]))
        self.assertEqual(told[2:], [[1], [0], [1], [0]])

    def test_s_and_t_that_are_not_two_nodes(self):
        for s, t in NO_TWO_NODES:
            with self.subTest(s=s, t=t):
                self.assertEqual(ask(proves(s, t, [], [])), [[-1]])
                for amounts, prices in [([3], [0, 2]), ([6], [1]), ([], []), ([LEAST_64] * 40, [GREATEST_64] * 64)]:
                    told = ask(arc(0, 1, 5, 2), proves(s, t, amounts, prices), proves(0, 1, [3], [0, 2]), arc(1, 2))
                    self.assertEqual(told, [[0], [-1], [1], [1]])

    def test_rows_are_not_taken_for_calls(self):
        told = ask(
            proves(0, 1, [1, 0, 1, 5, 2], [2, 2]), proves(0, 1, [], [0, 1, 0, 1, 5, 2]), proves(0, 0, [2], [2, 2]),
            most(0, 1))
        self.assertEqual(told, [[0], [1], [-1], [0]])

    def test_between_changes_of_the_net(self):
        told = ask(
            proves(0, 1, [], []), arc(0, 1, 2, 3), proves(0, 1, [], []), proves(0, 1, [2], [0, 3]),
            arc(0, 1, 2, 1), proves(0, 1, [2, 0], [0, 3]), proves(0, 1, [1, 2], [0, 3]), drop(),
            proves(0, 1, [2], [0, 3]), drop(), proves(0, 1, [2], [0, 3]))
        self.assertEqual(told, [[1], [0], [0], [1], [1], [0], [1], [1], [1], [0], [0]])

    def test_the_net_is_not_changed(self):
        asked = [most(0, 3), cut(0, 3), cheapest(0, 3, 4), flow(0, 3, [1, 0, 0, 1, 0])]
        before = ask(*NET, *asked)[5:]
        for amounts, prices in [([5, 2, 0, 5, 2], [0, 10, 20, 22]), ([9] * 40, [9] * 64), ([], [])]:
            told = ask(*NET, proves(0, 3, amounts, prices), proves(0, 0, amounts, prices), *asked, arc(0, 1), drop())
            self.assertEqual(told[7:], before + [[5], [5]])


class ProvesByDefinitionTest(unittest.TestCase):
    def test_every_flow_and_every_price_on_a_small_net(self):
        arcs = [(0, 1, 1, 1), (1, 2, 1, -1), (0, 2, 2, 1), (2, 0, 1, 0)]
        net = [arc(*a) for a in arcs]
        for amounts in product(range(-1, 3), repeat=4):
            is_flow = amounts in set(every_flow(arcs, 0, 2))
            for prices in product([0, 1], [-1, 0, 1, 2], [-1, 0, 1, 2]):
                right = is_flow and goes_with(arcs, amounts, list(prices), 0)
                told = ask_last(*net, proves(0, 2, list(amounts), list(prices)))
                self.assertEqual(told, [1 if right else 0], (amounts, prices))

    def test_a_flow_is_the_cheapest_of_its_value_if_and_only_if_there_are_prices(self):
        chance = Random(8)
        proven = 0
        refuted = 0
        for number in range(250):
            nodes = chance.sample(range(64), chance.randrange(2, 6))
            arcs = mixed_net(chance, nodes, chance.randrange(7), 2, chance.choice([1, 5, MILLION]))
            s, t = chance.sample(nodes, 2)
            least = least_costs_by_trying_amounts(arcs, s, t)
            net = [arc(*a) for a in arcs]
            flows = list(every_flow(arcs, s, t))
            for amounts in chance.sample(flows, min(12, len(flows))):
                is_cheapest = cost(arcs, amounts) == least[value(arcs, amounts, s)]
                told = ask_last(*net, proves(s, t, list(amounts), cheapest_prices(arcs, amounts, s)))
                self.assertEqual(told, [1 if is_cheapest else 0], (arcs, s, t, amounts))
                proven += is_cheapest
                refuted += not is_cheapest
        self.assertGreater(min(proven, refuted), 300)

    def test_mixed_prices(self):
        chance = Random(9)
        counts = [0, 0]
        for number in range(3000):
            nodes = chance.sample(range(8), chance.randrange(2, 5))
            arcs = mixed_net(chance, nodes, chance.randrange(4), 2, 2)
            s, t = chance.sample(nodes, 2)
            flows = list(every_flow(arcs, s, t))
            amounts = list(chance.choice(flows))
            prices = cheapest_prices(arcs, amounts, s)[:chance.choice([8, 8, 7, 5, 64])]
            if chance.randrange(2):
                prices[chance.randrange(len(prices))] += chance.randint(-2, 2)
            right = goes_with(arcs, amounts, prices, s)
            told = ask_last(*[arc(*a) for a in arcs], proves(s, t, amounts, prices))
            self.assertEqual(told, [1 if right else 0], (arcs, s, t, amounts, prices))
            counts[right] += 1
        self.assertGreater(min(counts), 300)

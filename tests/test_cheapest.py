"""Point 5: cheapest."""

import unittest
from itertools import permutations, product
from random import Random

from tests.helper import GREATEST, GREATEST_64, LEAST, LEAST_64, NO_TWO_NODES
from tests.helper import arc, ask, ask_last, cheapest, cut, drop, least_costs_by_trying_amounts, mixed_net, most

BILLION = 1000000000
MILLION = 1000000


class CheapestTest(unittest.TestCase):
    def check_costs(self, net, s, t, costs):
        """The costs of the values 0, 1, 2 and so on, and that no flow has a greater value."""
        told = ask(*net, *[cheapest(s, t, amount) for amount in range(len(costs) + 2)])[len(net):]
        self.assertEqual(told, [[0, least] for least in costs] + [[-2], [-2]])

    def check_in_any_order(self, net, s, t, costs):
        for order in permutations(net):
            self.check_costs(order, s, t, costs)

    def test_no_arc_at_all(self):
        self.check_costs([], 0, 1, [0])
        self.check_costs([], 63, 0, [0])

    def test_one_arc(self):
        self.check_costs([arc(0, 63, 3, 7)], 0, 63, [0, 7, 14, 21])
        self.check_costs([arc(0, 63, 3, 7)], 63, 0, [0])
        self.check_costs([arc(0, 63, 3, 0)], 0, 63, [0, 0, 0, 0])
        self.check_costs([arc(0, 63, 0, 7)], 0, 63, [0])

    def test_costs_along_a_way_add_up(self):
        self.check_costs([arc(0, 1, 9, 2), arc(1, 2, 2, 30), arc(2, 3, 9, 400)], 0, 3, [0, 432, 864])

    def test_the_cheaper_arc_comes_first(self):
        self.check_in_any_order([arc(0, 1, 2, 5), arc(0, 1, 1, 3), arc(0, 1, 1, 9)], 0, 1, [0, 3, 8, 13, 22])

    def test_a_longer_way_that_is_cheaper_comes_first(self):
        net = [arc(0, 9, 1, 10), arc(0, 1, 2, 3), arc(1, 2, 1, 3), arc(2, 9, 2, 3)]
        self.check_in_any_order(net, 0, 9, [0, 9, 19])

    def test_what_was_sent_is_taken_back(self):
        net = [arc(0, 1, 1, 1), arc(0, 2, 1, 4), arc(1, 2, 1, 1), arc(1, 3, 1, 4), arc(2, 3, 1, 1)]
        self.check_in_any_order(net, 0, 3, [0, 3, 10])

    def test_a_part_of_what_was_sent_is_taken_back(self):
        net = [arc(0, 1, 3, 1), arc(0, 2, 2, 4), arc(1, 2, 3, 1), arc(1, 3, 2, 4), arc(2, 3, 3, 1)]
        self.check_in_any_order(net, 0, 3, [0, 3, 6, 9, 16, 23])

    def test_taken_back_along_a_longer_way(self):
        net = [
            arc(0, 1, 1, 0), arc(1, 2, 1, -9), arc(2, 5, 1, 0),
            arc(0, 3, 1, 1), arc(3, 4, 1, 1), arc(4, 2, 1, 1),
            arc(1, 6, 1, 1), arc(6, 7, 1, 1), arc(7, 5, 1, 1),
        ]
        self.check_costs(net, 0, 5, [0, -9, 6])
        self.check_costs(net[::-1], 0, 5, [0, -9, 6])

    def test_taken_back_costs_are_given_back(self):
        net = [arc(0, 1, 1, 0), arc(1, 2, 1, 0), arc(2, 3, 1, 0), arc(0, 2, 1, MILLION), arc(1, 3, 1, MILLION)]
        self.check_in_any_order(net, 0, 3, [0, 0, 2 * MILLION])

    def test_costs_below_0(self):
        self.check_costs([arc(0, 1, 3, -7)], 0, 1, [0, -7, -14, -21])
        self.check_costs([arc(0, 1, 3, -7), arc(1, 2, 2, 5)], 0, 2, [0, -2, -4])
        self.check_in_any_order([arc(0, 1, 1, -7), arc(0, 1, 1, 3), arc(0, 1, 1, -8)], 0, 1, [0, -8, -15, -12])

    def test_a_cost_below_0_that_leads_nowhere(self):
        self.check_costs([arc(0, 1, 3, -7), arc(2, 3, 3, -7), arc(0, 9, 1, 1)], 0, 9, [0, 1])
        self.check_costs([arc(1, 0, 3, -7), arc(9, 1, 0, -7), arc(0, 9, 1, 1)], 0, 9, [0, 1])

    def test_a_circle_apart_from_every_way(self):
        net = [arc(0, 1, 2, 10), arc(5, 6, 3, -4), arc(6, 7, 9, 1), arc(7, 5, 9, 1)]
        self.check_in_any_order(net, 0, 1, [-6, 4, 14])

    def test_a_circle_without_any_way(self):
        net = [arc(5, 6, 3, -4), arc(6, 5, 2, 1)]
        self.check_in_any_order(net, 0, 1, [-6])
        self.check_in_any_order(net, 5, 1, [-6])
        self.check_in_any_order(net, 0, 6, [-6])

    def test_a_circle_of_two_arcs_below_0(self):
        self.check_in_any_order([arc(5, 6, 3, -4), arc(6, 5, 7, -2)], 0, 1, [-18])

    def test_a_circle_that_costs_0_or_more(self):
        self.check_in_any_order([arc(0, 1, 1, 2), arc(5, 6, 3, -4), arc(6, 5, 2, 4)], 0, 1, [0, 2])
        self.check_in_any_order([arc(0, 1, 1, 2), arc(5, 6, 3, -4), arc(6, 5, 2, 5)], 0, 1, [0, 2])

    def test_a_circle_without_capacity(self):
        self.check_in_any_order([arc(0, 1, 1, 2), arc(5, 6, 0, -4), arc(6, 5, 2, 1)], 0, 1, [0, 2])

    def test_two_circles_that_share_an_arc(self):
        net = [arc(5, 6, 3, 0), arc(6, 5, 2, -4), arc(6, 7, 2, -3), arc(7, 5, 9, -3)]
        self.check_in_any_order(net, 0, 1, [-16])

    def test_a_circle_is_taken_back(self):
        # By itself 5 6 7 is worth it, and it stands in the way of 5 6 8, which is worth more.
        net = [arc(5, 6, 1, 0), arc(6, 7, 1, -1), arc(7, 5, 1, 0), arc(6, 8, 1, -5), arc(8, 5, 1, 0)]
        self.check_in_any_order(net, 0, 1, [-5])

    def test_a_circle_on_the_way(self):
        net = [arc(0, 1, 1, 0), arc(1, 2, 1, -5), arc(2, 1, 1, 0), arc(2, 3, 1, 0)]
        self.check_in_any_order(net, 0, 3, [-5, -5])
        wider = [arc(0, 1, 2, 1), arc(1, 2, 3, -5), arc(2, 1, 2, 2), arc(2, 3, 2, 1)]
        self.check_in_any_order(wider, 0, 3, [-6, -9, -9])

    def test_a_circle_through_s_and_t(self):
        self.check_in_any_order([arc(0, 1, 5, 2), arc(1, 0, 3, -7)], 0, 1, [-15, -13, -11, -4, 3, 10])
        self.check_in_any_order([arc(0, 1, 5, 2), arc(1, 0, 3, -7)], 1, 0, [-15, -17, -19, -21])

    def test_arcs_into_s(self):
        net = [arc(0, 1, 2, 1), arc(1, 0, 1, -3), arc(1, 2, 2, 1)]
        self.check_in_any_order(net, 0, 2, [-2, 0, 4])
        self.check_in_any_order([arc(2, 0, 9, 1), arc(1, 0, 9, 1), arc(0, 1, 1, 4)], 0, 1, [0, 4])

    def test_arcs_out_of_t(self):
        net = [arc(0, 1, 2, 1), arc(1, 2, 2, 1), arc(2, 1, 1, -3)]
        self.check_in_any_order(net, 0, 2, [-2, 0, 4])
        self.check_in_any_order([arc(1, 2, 9, -1), arc(1, 3, 9, -1), arc(0, 1, 1, 4)], 0, 1, [0, 4])

    def test_a_way_through_many_nodes(self):
        net = [arc(5 * node, 5 * node + 5, 3, node - 2) for node in range(12)]
        self.check_costs(net, 0, 60, [0, 42, 84, 126])
        self.check_costs(net[::-1], 0, 60, [0, 42, 84, 126])

    def test_between_changes_of_the_net(self):
        told = ask(
            cheapest(0, 1, 1), arc(0, 1, 2, 5), cheapest(0, 1, 2), cheapest(0, 1, 3), arc(0, 1, 2, -3),
            cheapest(0, 1, 3), cheapest(0, 1, 3), arc(1, 0, 1, -9), cheapest(0, 1, 0), drop(), cheapest(0, 1, 0),
            drop(), cheapest(0, 1, 3), cheapest(0, 1, 1), arc(1, 2), drop(), drop(), drop(), cheapest(0, 1, 0))
        self.assertEqual(
            told,
            [[-2], [0], [0, 10], [-2], [1], [0, -1], [0, -1], [2], [0, -12], [2], [0, 0],
             [1], [-2], [0, 5], [1], [1], [0], [-1], [0, 0]])

    def test_the_net_is_not_changed(self):
        net = [arc(0, 1, 2, 1), arc(1, 0, 1, -3), arc(1, 2, 2, 1), arc(5, 6, 3, -4), arc(6, 5, 2, 1)]
        asked = [most(0, 2), cut(0, 2), most(5, 6), cheapest(0, 2, 1)]
        before = ask(*net, *asked)[len(net):]
        for amount in [0, 2, 3, -1, GREATEST_64, LEAST_64]:
            told = ask(*net, cheapest(0, 2, amount), cheapest(3, 3, amount), *asked, arc(0, 1), drop(), drop())
            self.assertEqual(told[len(net) + 2:], before + [[5], [5], [4]])


class CheapestRefusedTest(unittest.TestCase):
    def test_s_and_t_that_are_not_two_nodes(self):
        for (s, t), amount in product(NO_TWO_NODES, [0, 1, 6, -1, LEAST_64, GREATEST_64]):
            with self.subTest(s=s, t=t, amount=amount):
                self.assertEqual(ask(cheapest(s, t, amount)), [[-1]])
                told = ask(arc(0, 1, 5, 2), cheapest(s, t, amount), cheapest(0, 1, 5), arc(1, 2))
                self.assertEqual(told, [[0], [-1], [0, 10], [1]])

    def test_every_node_is_one(self):
        for node in range(63):
            told = ask(arc(node, node + 1, 1, 3), cheapest(node, node + 1, 1), cheapest(node + 1, node, 0))
            self.assertEqual(told, [[0], [0, 3], [0, 0]])

    def test_value_below_0(self):
        for amount in [-1, -2, -5, LEAST, -2 ** 32, LEAST_64]:
            with self.subTest(amount=amount):
                self.assertEqual(ask(cheapest(0, 1, amount)), [[-1]])
                told = ask(arc(0, 1, 5), arc(1, 0, 5), cheapest(0, 1, amount), cheapest(1, 0, amount), arc(1, 2))
                self.assertEqual(told, [[0], [1], [-1], [-1], [2]])

    def test_value_above_the_greatest_one(self):
        for amount in [6, 7, GREATEST, 2 ** 32, 2 ** 32 + 5, 2 ** 63 - 3, GREATEST_64]:
            with self.subTest(amount=amount):
                told = ask(arc(0, 1, 5, -2), cheapest(0, 1, amount), cheapest(0, 1, 5), cheapest(1, 0, amount), drop())
                self.assertEqual(told, [[0], [-2], [0, -10], [-2], [0]])

    def test_value_above_the_greatest_one_though_circles_are_wide(self):
        net = [arc(0, 1, 1, 2), arc(1, 0, 9, -5), arc(0, 1, 2, 2), arc(5, 6, 9, -1), arc(6, 5, 9, -1)]
        self.assertEqual(ask(*net, cheapest(0, 1, 3), cheapest(0, 1, 4))[-2:], [[0, -12], [-2]])


class CheapestGreatNumbersTest(unittest.TestCase):
    def test_greatest_capacities_and_costs(self):
        for unit_cost in [MILLION, -MILLION]:
            net = [arc(0, 1, BILLION, unit_cost) for number in range(12)]
            for amount in [0, 1, BILLION, BILLION + 1, 7 * BILLION - 1, 12 * BILLION]:
                self.assertEqual(ask_last(*net, cheapest(0, 1, amount)), [0, amount * unit_cost])
            self.assertEqual(ask_last(*net, cheapest(0, 1, 12 * BILLION + 1)), [-2])

    def test_costs_of_both_signs(self):
        net = [arc(0, 1, BILLION, MILLION * (-1) ** number) for number in range(12)]
        asked = [6 * BILLION, 6 * BILLION + 1, 9 * BILLION, 12 * BILLION]
        told = ask(*net, *[cheapest(0, 1, amount) for amount in asked])[12:]
        self.assertEqual(
            told, [[0, -6 * BILLION * MILLION], [0, (1 - 6 * BILLION) * MILLION], [0, -3 * BILLION * MILLION], [0, 0]])

    def test_a_circle_of_twelve_arcs(self):
        net = [arc(node, (node + 1) % 12, BILLION, -MILLION) for node in range(12)]
        self.assertEqual(ask_last(*net, cheapest(20, 30, 0)), [0, -12 * BILLION * MILLION])
        self.assertEqual(ask_last(*net, cheapest(0, 6, 0)), [0, -12 * BILLION * MILLION])
        self.assertEqual(ask_last(*net, cheapest(0, 6, BILLION)), [0, -6 * BILLION * MILLION])
        self.assertEqual(ask_last(*net, cheapest(0, 6, BILLION + 1)), [-2])

    def test_twelve_arcs_on_one_way(self):
        net = [arc(node, node + 1, BILLION, MILLION) for node in range(12)]
        self.assertEqual(ask_last(*net, cheapest(0, 12, BILLION)), [0, 12 * BILLION * MILLION])

    def test_a_narrow_arc_between_wide_ways(self):
        # Ways that go to and fro by the narrow arc would be a thousand million.
        for unit_cost in [0, 1, MILLION]:
            net = [
                arc(0, 1, BILLION, unit_cost), arc(0, 2, BILLION, unit_cost), arc(1, 2, 1, 0), arc(2, 1, 1, 0),
                arc(1, 3, BILLION, unit_cost), arc(2, 3, BILLION, unit_cost)]
            for order in permutations(net):
                self.assertEqual(ask_last(*order, cheapest(0, 3, 2 * BILLION)), [0, 4 * BILLION * unit_cost])

    def test_a_narrow_circle_between_wide_ones(self):
        net = [
            arc(5, 6, BILLION, -1), arc(6, 7, BILLION, 0), arc(7, 5, BILLION, 0), arc(6, 8, BILLION, 0),
            arc(8, 5, BILLION, 0), arc(7, 8, 1, -1), arc(8, 7, 1, -1)]
        for order in permutations(net):
            self.assertEqual(ask_last(*order, cheapest(0, 1, 0)), [0, -BILLION - 2])


class CheapestByDefinitionTest(unittest.TestCase):
    def check(self, arcs, s, t, scale=1, scale_of_costs=1):
        """Every value against every list of amounts, with capacities, values and costs that many times as great."""
        least = least_costs_by_trying_amounts(arcs, s, t)
        net = [arc(a[0], a[1], a[2] * scale, a[3] * scale_of_costs) for a in arcs]
        asked = range(max(least) + 2)
        told = ask(*net, *[cheapest(s, t, amount * scale) for amount in asked], most(s, t))[len(net):]
        expected = [[0, least[amount] * scale * scale_of_costs] for amount in asked[:-1]] + [[-2]]
        self.assertEqual(told, expected + [[max(least) * scale]], (arcs, s, t))

    def test_every_cost_on_a_net_with_circles(self):
        pairs = [(0, 1), (1, 2), (2, 1), (1, 3), (2, 3), (3, 0)]
        for costs in product([-2, 0, 3], repeat=6):
            self.check([(*pair, 1, unit_cost) for pair, unit_cost in zip(pairs, costs)], 0, 3)

    def test_every_capacity_on_a_net_with_circles(self):
        pairs = [(0, 1, 1), (0, 2, 3), (1, 2, -2), (2, 1, -1), (1, 3, 2), (2, 3, 1)]
        for capacities in product(range(3), repeat=6):
            self.check([(a[0], a[1], capacity, a[2]) for a, capacity in zip(pairs, capacities)], 0, 3)

    def test_mixed_nets(self):
        chance = Random(4)
        for number in range(600):
            nodes = chance.sample(range(64), chance.randrange(2, 6))
            unit_cost = chance.choice([0, 1, 4, MILLION])
            arcs = mixed_net(chance, nodes, chance.randrange(8), 2, unit_cost)
            self.check(arcs, *chance.sample(nodes, 2))

    def test_mixed_nets_of_twelve_arcs(self):
        chance = Random(5)
        for number in range(60):
            nodes = chance.sample(range(64), chance.randrange(3, 9))
            arcs = [(*a[:2], 1, a[3]) for a in mixed_net(chance, nodes, 12, 1, 5)]
            self.check(arcs, *chance.sample(nodes, 2))

    def test_mixed_nets_that_are_many_times_as_great(self):
        # With all capacities so many times as great, whole amounts can do no better than so many times as well.
        chance = Random(6)
        for number in range(300):
            arcs = mixed_net(chance, range(4), 7, 2, 4)
            self.check(arcs, *chance.sample(range(4), 2), BILLION // 2, MILLION // 4)

"""Points 2 and 6: flow."""

import unittest
from random import Random

from tests.helper import GREATEST, GREATEST_64, LEAST, LEAST_64, NO_TWO_NODES
from tests.helper import arc, ask, ask_last, cheapest, cost, cut, drop, every_flow, every_list_of_amounts, flow
from tests.helper import mixed_net, most, value

BILLION = 1000000000
MILLION = 1000000

# A way from 0 to 3 by 1 and by 2, with an arc between these.
NET = [arc(0, 1, 5, 10), arc(0, 2, 4, 20), arc(1, 2, 3, -7), arc(1, 3, 5, 1), arc(2, 3, 6, 2)]


class FlowTest(unittest.TestCase):
    def check(self, amounts, told):
        self.assertEqual(ask_last(*NET, flow(0, 3, amounts)), told)

    def test_value_and_cost(self):
        self.check([0, 0, 0, 0, 0], [1, 0, 0])
        self.check([1, 0, 0, 1, 0], [1, 1, 11])
        self.check([0, 1, 0, 0, 1], [1, 1, 22])
        self.check([1, 0, 1, 0, 1], [1, 1, 5])
        self.check([5, 3, 3, 2, 6], [1, 8, 50 + 60 - 21 + 2 + 12])

    def test_amounts_up_to_the_capacities(self):
        net = [arc(0, 1, 5, 10), arc(1, 2, 5, 1)]
        self.assertEqual(ask_last(*net, flow(0, 2, [5, 5])), [1, 5, 55])
        self.assertEqual(ask_last(arc(0, 1, 0, 10), flow(0, 1, [0])), [1, 0, 0])

    def test_an_amount_below_0(self):
        self.check([0, 1, -1, 1, 0], [0])
        self.check([-1, 0, 0, -1, 0], [0])
        self.check([-1, 1, 0, -1, 1], [0])
        self.assertEqual(ask_last(arc(0, 1, 5), flow(0, 1, [-1])), [0])
        self.assertEqual(ask_last(arc(1, 0, 5), flow(0, 1, [-1])), [0])

    def test_an_amount_above_its_capacity(self):
        self.check([5, 0, 4, 1, 4], [0])
        self.check([0, 5, 0, 0, 5], [0])
        self.assertEqual(ask(arc(0, 1, 5), flow(0, 1, [5]), flow(0, 1, [6]))[1:], [[1, 5, 0], [0]])
        self.assertEqual(ask(arc(1, 0, 5), flow(0, 1, [5]), flow(0, 1, [6]))[1:], [[1, -5, 0], [0]])
        self.assertEqual(ask_last(arc(0, 1, 0), flow(0, 1, [1])), [0])

    def test_a_node_where_it_does_not_add_up(self):
        self.check([2, 0, 0, 1, 0], [0])
        self.check([1, 0, 0, 2, 0], [0])
        self.check([1, 0, 0, 0, 1], [0])
        self.check([0, 1, 0, 1, 0], [0])
        self.check([0, 0, 1, 0, 0], [0])

    def test_every_node_but_s_and_t_counts(self):
        for node in range(2, 64):
            net = [arc(0, node, 2, 3), arc(node, 1, 2, 4)]
            told = ask(*net, flow(0, 1, [1, 1]), flow(0, 1, [1, 0]), flow(0, 1, [0, 1]), flow(0, 1, [1, 2]))
            self.assertEqual(told[2:], [[1, 1, 7], [0], [0], [0]])

    def test_s_and_t_do_not_count(self):
        net = [arc(0, 1, 2, 3), arc(1, 2, 2, 4)]
        told = ask(*net, flow(0, 1, [2, 0]), flow(1, 0, [2, 0]), flow(1, 2, [0, 1]), flow(2, 1, [0, 1]))
        self.assertEqual(told[2:], [[1, 2, 6], [1, -2, 6], [1, 1, 4], [1, -1, 4]])
        told = ask(*net, flow(0, 1, [2, 1]), flow(0, 2, [2, 1]), flow(1, 2, [1, 1]), flow(0, 2, [1, 1]))
        self.assertEqual(told[2:], [[0], [0], [0], [1, 1, 7]])

    def test_value_below_0(self):
        self.assertEqual(ask_last(arc(1, 0, 5, 2), flow(0, 1, [3])), [1, -3, 6])
        self.assertEqual(ask_last(arc(1, 0, 5, 2), arc(0, 1, 5, 1), flow(0, 1, [3, 1])), [1, -2, 7])
        self.assertEqual(ask_last(*NET, flow(3, 0, [1, 2, 0, 1, 2])), [1, -3, 11 + 44])

    def test_cost_below_0(self):
        self.assertEqual(ask_last(arc(0, 1, 5, -2), flow(0, 1, [3])), [1, 3, -6])
        self.assertEqual(ask_last(arc(1, 0, 5, -2), flow(0, 1, [3])), [1, -3, -6])

    def test_a_round_through_s(self):
        self.assertEqual(ask_last(arc(0, 2, 5, 3), arc(2, 0, 5, 4), flow(0, 1, [4, 4])), [1, 0, 28])

    def test_a_circle_apart(self):
        net = [arc(5, 6, 5, -3), arc(6, 5, 5, 1)]
        told = ask(*net, flow(0, 1, [4, 4]), flow(0, 1, [4, 3]), flow(0, 5, [4, 3]), flow(5, 6, [4, 3]))
        self.assertEqual(told[2:], [[1, 0, -8], [0], [0], [1, 1, -9]])

    def test_arcs_between_the_same_nodes_in_their_order(self):
        net = [arc(0, 1, 1, 3), arc(0, 1, 2, 50)]
        self.assertEqual(ask_last(*net, flow(0, 1, [1, 2])), [1, 3, 103])
        self.assertEqual(ask_last(*net, flow(0, 1, [2, 1])), [0])

    def test_more_or_fewer_amounts_than_arcs(self):
        self.check([0, 0, 0, 0], [0])
        self.check([0, 0, 0, 0, 0, 0], [0])
        self.check([], [0])
        self.check([1, 0, 0, 1], [0])
        self.check([1, 0, 0, 1, 0, 0], [0])
        for length in range(41):
            self.check([0] * length, [1, 0, 0] if length == 5 else [0])

    def test_no_arc_at_all(self):
        self.assertEqual(ask(flow(0, 1, [])), [[1, 0, 0]])
        for length in range(1, 41):
            self.assertEqual(ask(flow(0, 1, [0] * length)), [[0]])

    def test_as_many_amounts_as_there_are_arcs_now(self):
        told = ask(
            flow(0, 1, [1]), arc(0, 1, 2, 3), flow(0, 1, [1]), flow(0, 1, []), arc(0, 1, 2, 4), flow(0, 1, [1]),
            flow(0, 1, [1, 1]), drop(), flow(0, 1, [1, 1]), flow(0, 1, [2]), drop(), flow(0, 1, [2]), flow(0, 1, []))
        self.assertEqual(
            told, [[0], [0], [1, 1, 3], [0], [1], [0], [1, 2, 7], [1], [0], [1, 2, 6], [0], [0], [1, 0, 0]])

    def test_a_refused_arc_has_no_amount(self):
        told = ask(arc(0, 1, 2, 3), arc(1, 1, 2, 3), flow(0, 1, [1, 0]), flow(0, 1, [1]))
        self.assertEqual(told, [[0], [-1], [0], [1, 1, 3]])

    def test_amounts_at_the_ends_of_the_range(self):
        for amount in [LEAST_64, GREATEST_64, LEAST, GREATEST, 2 ** 32, 2 ** 32 + 1, -2 ** 32 + 1, BILLION + 1]:
            with self.subTest(amount=amount):
                self.assertEqual(ask_last(arc(0, 1, BILLION), flow(0, 1, [amount])), [0])
                self.check([amount, 0, 0, amount, 0], [0])
                self.check([amount] * 5, [0])
                self.check([amount] * 40, [0])
                self.assertEqual(ask(flow(0, 1, [amount] * 40), flow(0, 1, [])), [[0], [1, 0, 0]])

    def test_greatest_capacities_and_costs(self):
        for unit_cost in [MILLION, -MILLION]:
            net = [arc(0, 1, BILLION, unit_cost) for number in range(12)]
            told = ask(*net, flow(0, 1, [BILLION] * 12), flow(1, 0, [BILLION] * 12), flow(0, 1, [BILLION + 1] * 12))
            total = 12 * BILLION
            self.assertEqual(told[12:], [[1, total, total * unit_cost], [1, -total, total * unit_cost], [0]])

    def test_s_and_t_that_are_not_two_nodes(self):
        for s, t in NO_TWO_NODES:
            with self.subTest(s=s, t=t):
                self.assertEqual(ask(flow(s, t, [])), [[-1]])
                for amounts in [[3], [6], [], [0, 0], [LEAST_64] * 40]:
                    told = ask(arc(0, 1, 5, 2), flow(s, t, amounts), flow(0, 1, [3]), arc(1, 2))
                    self.assertEqual(told, [[0], [-1], [1, 3, 6], [1]])

    def test_amounts_are_not_taken_for_calls(self):
        told = ask(flow(0, 1, [1, 0, 1, 5, 2]), flow(0, 1, [2]), flow(0, 1, [3, 0, 1]), flow(0, 0, [2, 2]), most(0, 1))
        self.assertEqual(told, [[0], [0], [0], [-1], [0]])

    def test_the_net_is_not_changed(self):
        asked = [most(0, 3), cut(0, 3), cheapest(0, 3, 4), flow(0, 3, [1, 0, 0, 1, 0])]
        before = ask(*NET, *asked)[5:]
        for amounts in [[5, 3, 3, 2, 6], [5, 5, 5, 5, 5], [], [9] * 40]:
            told = ask(*NET, flow(0, 3, amounts), flow(0, 0, amounts), *asked, arc(0, 1), drop(), drop())
            self.assertEqual(told[7:], before + [[5], [5], [4]])


class FlowByDefinitionTest(unittest.TestCase):
    def test_every_list_of_amounts_on_mixed_nets(self):
        chance = Random(7)
        for number in range(150):
            nodes = chance.sample(range(64), chance.randrange(2, 6))
            arcs = mixed_net(chance, nodes, chance.randrange(5), 2, 9)
            s, t = chance.sample(nodes, 2)
            flows = set(every_flow(arcs, s, t))
            wider = [(a[0], a[1], a[2] + 1, a[3]) for a in arcs]
            tried = list(every_list_of_amounts(wider))
            net = [arc(*a) for a in arcs]
            told = ask(*net, *[flow(s, t, amounts) for amounts in tried])[len(net):]
            for amounts, answer in zip(tried, told):
                right = [1, value(arcs, amounts, s), cost(arcs, amounts)] if amounts in flows else [0]
                self.assertEqual(answer, right, (arcs, s, t, amounts))

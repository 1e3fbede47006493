"""Points 2 and 3: flows, their value, and most."""

import unittest
from itertools import product
from random import Random

from netflows.flows import value_of
from netflows.net import Arc
from tests.helper import GREATEST_64, LEAST_64, NO_TWO_NODES
from tests.helper import arc, ask, ask_last, cut, drop, most, most_by_trying_amounts


class ValueTest(unittest.TestCase):
    def test_what_goes_out_less_what_comes_in(self):
        arcs = [Arc(0, 1, 5, 0), Arc(1, 0, 5, 0), Arc(0, 2, 5, 0), Arc(1, 2, 5, 0)]
        self.assertEqual(value_of(arcs, [4, 1, 2, 3], 0), 5)
        self.assertEqual(value_of(arcs, [1, 4, 0, 0], 0), -3)


class MostTest(unittest.TestCase):
    def test_no_arc_at_all(self):
        self.assertEqual(ask(most(0, 1), most(63, 0)), [[0], [0]])

    def test_one_arc(self):
        self.assertEqual(ask(arc(0, 63, 8), most(0, 63), most(63, 0)), [[0], [8], [0]])

    def test_narrowest_arc_of_a_way(self):
        net = [arc(0, 1, 9), arc(1, 2, 4), arc(2, 3, 6)]
        self.assertEqual(ask_last(*net, most(0, 3)), [4])
        self.assertEqual(ask_last(*net, most(0, 1)), [9])
        self.assertEqual(ask_last(*net, most(2, 3)), [6])

    def test_several_ways_add_up(self):
        net = [arc(0, 1, 3), arc(1, 9, 2), arc(0, 2, 4), arc(2, 9, 5), arc(0, 9, 6)]
        self.assertEqual(ask_last(*net, most(0, 9)), [12])

    def test_no_way(self):
        self.assertEqual(ask_last(arc(0, 1, 5), arc(2, 3, 5), most(0, 3)), [0])
        self.assertEqual(ask_last(arc(1, 0, 5), arc(2, 1, 5), most(0, 2)), [0])

    def test_capacity_0(self):
        self.assertEqual(ask_last(arc(0, 1, 0), most(0, 1)), [0])
        self.assertEqual(ask_last(arc(0, 1, 5), arc(1, 2, 0), arc(2, 3, 5), most(0, 3)), [0])
        self.assertEqual(ask_last(arc(0, 1, 5), arc(1, 2, 0), arc(1, 2, 1), most(0, 2)), [1])

    def test_what_was_sent_is_taken_back(self):
        # The only way of three steps, 0 1 2 5, stands in the way of the two longer ones.
        net = [
            arc(0, 1), arc(1, 2), arc(2, 5),
            arc(0, 3), arc(3, 4), arc(4, 2),
            arc(1, 6), arc(6, 7), arc(7, 5),
        ]
        self.assertEqual(ask_last(*net, most(0, 5)), [2])
        self.assertEqual(ask_last(*reversed(net), most(0, 5)), [2])

    def test_a_part_of_what_was_sent_is_taken_back(self):
        net = [
            arc(0, 1, 5), arc(1, 2, 5), arc(2, 5, 5),
            arc(0, 3, 3), arc(3, 4, 3), arc(4, 2, 3),
            arc(1, 6, 2), arc(6, 7, 2), arc(7, 5, 2),
        ]
        self.assertEqual(ask_last(*net, most(0, 5)), [7])

    def test_no_more_is_taken_back_than_was_sent(self):
        net = [
            arc(0, 1, 1), arc(1, 2, 1), arc(2, 5, 1),
            arc(0, 3, 2), arc(3, 4, 2), arc(4, 2, 2),
            arc(1, 6, 2), arc(6, 7, 2), arc(7, 5, 2),
        ]
        self.assertEqual(ask_last(*net, most(0, 5)), [2])

    def test_arcs_into_s_and_out_of_t(self):
        net = [arc(0, 1, 4), arc(1, 0, 9), arc(2, 0, 9), arc(1, 2, 3), arc(2, 1, 9), arc(2, 3, 9)]
        self.assertEqual(ask_last(*net, most(0, 2)), [3])

    def test_a_round_through_s_adds_nothing(self):
        net = [arc(0, 1, 7), arc(1, 0, 7), arc(2, 3, 7), arc(3, 2, 7)]
        self.assertEqual(ask_last(*net, most(0, 2)), [0])

    def test_costs_do_not_count(self):
        net = [arc(0, 1, 5, 1000000), arc(0, 1, 6, -1000000)]
        self.assertEqual(ask_last(*net, most(0, 1)), [11])

    def test_greatest_capacities(self):
        net = [arc(0, 1, 1000000000) for number in range(12)]
        self.assertEqual(ask_last(*net, most(0, 1)), [12000000000])
        cross = [
            arc(0, 1, 1000000000), arc(0, 2, 1000000000), arc(1, 2, 1),
            arc(1, 3, 1000000000), arc(2, 3, 1000000000),
        ]
        self.assertEqual(ask_last(*cross, most(0, 3)), [2000000000])

    def test_a_way_through_every_node(self):
        net = [arc(node, node + 1, 100 - node) for node in range(63)]
        self.assertEqual(ask_last(*net, most(0, 63)), [38])

    def test_s_and_t_that_are_not_two_nodes(self):
        for s, t in NO_TWO_NODES:
            with self.subTest(s=s, t=t):
                self.assertEqual(ask(most(s, t)), [[-1]])
                told = ask(arc(0, 1, 5), most(s, t), most(0, 1), arc(1, 2))
                self.assertEqual(told, [[0], [-1], [5], [1]])

    def test_every_node_is_one(self):
        for node in range(63):
            self.assertEqual(ask(most(node, node + 1), most(node + 1, node)), [[0], [0]])

    def test_between_changes_of_the_net(self):
        told = ask(
            arc(0, 1, 5), most(0, 2), arc(1, 2, 3), most(0, 2), most(0, 2), arc(0, 2, 4), most(0, 2),
            cut(0, 2), drop(), most(0, 2), drop(), most(0, 2), arc(1, 2, 9), most(0, 2),
        )
        self.assertEqual(
            told, [[0], [0], [1], [3], [3], [2], [7], [0, 3], [2], [3], [1], [0], [1], [5]])

    def test_after_refused_changes(self):
        told = ask(arc(0, 1, 5), arc(0, 1, GREATEST_64), arc(0, 1, LEAST_64), arc(0, 1, 5, LEAST_64), most(0, 1))
        self.assertEqual(told, [[0], [-1], [-1], [-1], [5]])


class MostByDefinitionTest(unittest.TestCase):
    def test_small_nets_against_every_list_of_amounts(self):
        pairs = [(0, 1), (0, 2), (1, 2), (2, 1), (1, 3), (2, 3), (3, 0)]
        for capacities in product(range(3), repeat=5):
            arcs = [(*pair, capacity) for pair, capacity in zip(pairs, [1, *capacities, 2])]
            with self.subTest(arcs=arcs):
                self.assertEqual(
                    ask_last(*[arc(*a) for a in arcs], most(0, 3)), [most_by_trying_amounts(arcs, 0, 3)])

    def test_mixed_nets_against_every_list_of_amounts(self):
        chance = Random(1)
        for number in range(300):
            arcs = [(*chance.sample(range(5), 2), chance.randrange(3)) for count in range(chance.randrange(8))]
            s, t = chance.sample(range(5), 2)
            with self.subTest(arcs=arcs, s=s, t=t):
                self.assertEqual(
                    ask_last(*[arc(*a) for a in arcs], most(s, t)), [most_by_trying_amounts(arcs, s, t)])

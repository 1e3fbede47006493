"""Point 4: cut."""

import unittest
from itertools import permutations
from random import Random

from tests.helper import NO_TWO_NODES
from tests.helper import arc, ask, ask_last, bits, cut, cut_by_trying_sets, drop, most


class CutTest(unittest.TestCase):
    def test_no_arc_at_all(self):
        self.assertEqual(ask(cut(0, 1)), [[0, 1]])
        self.assertEqual(ask(cut(5, 0)), [[0, 32]])

    def test_0_then_bit_i_for_node_i(self):
        for s in range(64):
            with self.subTest(s=s):
                t = (s + 1) % 64
                self.assertEqual(ask(cut(s, t)), [[0, 1 << s]])

    def test_node_63(self):
        self.assertEqual(ask_last(cut(63, 0)), [0, 9223372036854775808])
        self.assertEqual(ask_last(arc(0, 63, 2), arc(63, 1, 1), cut(0, 1)), [0, bits(0, 63)])
        self.assertEqual(ask_last(arc(0, 63, 2), cut(0, 63)), [0, 1])

    def test_every_node_but_t(self):
        net = [arc(node, node + 1, 2) for node in range(62)] + [arc(62, 63, 1)]
        self.assertEqual(ask_last(*net, cut(0, 63)), [0, 2 ** 63 - 1])
        back = [arc(node + 1, node, 2) for node in range(1, 63)] + [arc(1, 0, 1)]
        self.assertEqual(ask_last(*back, cut(63, 0)), [0, 2 ** 64 - 2])

    def test_the_narrow_place_of_a_way(self):
        self.assertEqual(ask_last(arc(0, 1, 1), arc(1, 2, 2), arc(2, 3, 3), cut(0, 3)), [0, bits(0)])
        self.assertEqual(ask_last(arc(0, 1, 2), arc(1, 2, 1), arc(2, 3, 2), cut(0, 3)), [0, bits(0, 1)])
        self.assertEqual(ask_last(arc(0, 1, 3), arc(1, 2, 2), arc(2, 3, 1), cut(0, 3)), [0, bits(0, 1, 2)])

    def test_of_several_sets_the_one_within_every_other(self):
        way = [arc(0, 1, 4), arc(1, 2, 4), arc(2, 3, 4)]
        self.assertEqual(ask_last(*way, cut(0, 3)), [0, bits(0)])
        later = [arc(0, 1, 5), arc(1, 2, 4), arc(2, 3, 4)]
        self.assertEqual(ask_last(*later, cut(0, 3)), [0, bits(0, 1)])
        two_ways = [arc(0, 1, 2), arc(1, 9, 2), arc(0, 2, 3), arc(2, 9, 2)]
        self.assertEqual(ask_last(*two_ways, cut(0, 9)), [0, bits(0, 2)])

    def test_nodes_that_lead_nowhere(self):
        # Node 4 can be reached and does not lead on: without it the arc to it would count.
        self.assertEqual(ask_last(arc(0, 4, 9), arc(0, 1, 1), cut(0, 1)), [0, bits(0, 4)])
        self.assertEqual(ask_last(arc(4, 0, 9), arc(0, 1, 1), cut(0, 1)), [0, bits(0)])
        self.assertEqual(ask_last(arc(4, 5, 9), arc(0, 1, 1), cut(0, 1)), [0, bits(0)])

    def test_capacity_0(self):
        self.assertEqual(ask_last(arc(0, 1, 0), cut(0, 1)), [0, bits(0)])
        self.assertEqual(ask_last(arc(0, 2, 0), arc(2, 1, 5), cut(0, 1)), [0, bits(0)])
        self.assertEqual(ask_last(arc(0, 2, 5), arc(2, 1, 0), cut(0, 1)), [0, bits(0, 2)])

    def test_arcs_into_the_set_do_not_count(self):
        net = [arc(0, 1, 5), arc(1, 2, 1), arc(2, 1, 9), arc(2, 0, 9), arc(2, 3, 5)]
        self.assertEqual(ask_last(*net, cut(0, 3)), [0, bits(0, 1)])

    def test_reached_by_taking_back(self):
        # Node 2 is full from 1; from 0 by 3 it is reached, and node 1 then by what 1 sent to 2.
        net = [arc(0, 1, 1), arc(1, 2, 1), arc(2, 9, 1), arc(0, 3, 1), arc(3, 2, 1)]
        self.assertEqual(ask_last(*net, cut(0, 9)), [0, bits(0, 1, 2, 3)])

    def test_costs_do_not_count(self):
        net = [arc(0, 1, 2, -1000000), arc(1, 2, 1, 1000000)]
        self.assertEqual(ask_last(*net, cut(0, 2)), [0, bits(0, 1)])

    def test_s_and_t_that_are_not_two_nodes(self):
        for s, t in NO_TWO_NODES:
            with self.subTest(s=s, t=t):
                self.assertEqual(ask(cut(s, t)), [[-1]])
                told = ask(arc(0, 1, 5), cut(s, t), cut(0, 1), arc(1, 2))
                self.assertEqual(told, [[0], [-1], [0, 1], [1]])

    def test_between_changes_of_the_net(self):
        told = ask(
            cut(0, 2), arc(0, 1, 5), cut(0, 2), arc(1, 2, 3), cut(0, 2), cut(0, 2), arc(1, 2, 2), cut(0, 2),
            drop(), cut(0, 2), most(0, 2), drop(), drop(), drop(), cut(0, 2),
        )
        self.assertEqual(
            told,
            [[0, 1], [0], [0, 3], [1], [0, 3], [0, 3], [2], [0, 1], [2], [0, 3], [3], [1], [0], [-1], [0, 1]])


class CutByDefinitionTest(unittest.TestCase):
    def check(self, arcs, s, t):
        least, shared = cut_by_trying_sets(arcs, s, t)
        told = ask(*[arc(*a) for a in arcs], most(s, t), cut(s, t))
        self.assertEqual(told[-2:], [[least], [0, shared]], (arcs, s, t))

    def test_every_net_of_four_nodes(self):
        pairs = list(permutations([0, 21, 42, 63], 2))
        for chosen in range(1 << len(pairs)):
            arcs = [(*pair, 1 + place % 3) for place, pair in enumerate(pairs) if chosen >> place & 1]
            self.check(arcs, 0, 63)

    def test_mixed_nets(self):
        chance = Random(2)
        for number in range(1500):
            nodes = chance.sample(range(64), chance.randrange(2, 9))
            greatest = chance.choice([1, 2, 3, 10, 1000000000])
            arcs = [(*chance.sample(nodes, 2), chance.randint(0, greatest)) for count in range(12)]
            s, t = chance.sample(nodes, 2)
            self.check(arcs, s, t)

    def test_mixed_nets_with_much_to_take_back(self):
        # The short way 0 1 2 5 is gone first, and nearly always stands in the way of the longer ones.
        skeleton = [(0, 1), (1, 2), (2, 5), (0, 3), (3, 4), (4, 2), (1, 6), (6, 7), (7, 5)]
        chance = Random(3)
        for number in range(500):
            pairs = skeleton + [tuple(chance.sample(range(8), 2)) for count in range(3)]
            chance.shuffle(pairs)
            self.check([(*pair, chance.randint(0, 4)) for pair in pairs], 0, 5)

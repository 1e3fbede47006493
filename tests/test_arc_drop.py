"""Point 1: arc and drop."""

import unittest

from netflows.net import Net
from tests.helper import GREATEST, GREATEST_64, LEAST, LEAST_64, NO_TWO_NODES
from tests.helper import arc, ask, ask_last, cut, drop, most


class ArcTest(unittest.TestCase):
    def check_taken(self, call):
        self.assertEqual(ask(call, arc(0, 1)), [[0], [1]])

    def check_refused(self, call):
        # The number behind a refusal shows that the refused arc left nothing.
        before = [arc(0, 1, 3), arc(1, 2, 2)]
        told = ask(*before, call, most(0, 2), cut(0, 2), arc(2, 3), drop(), drop(), drop(), drop())
        self.assertEqual(told, [[0], [1], [-1], [2], [0, 3], [2], [2], [1], [0], [-1]])
        self.assertEqual(ask(call, arc(0, 1)), [[-1], [0]])

    def test_numbers_run_from_0(self):
        calls = [arc(node, node + 1) for node in range(12)]
        self.assertEqual(ask(*calls), [[number] for number in range(12)])

    def test_every_pair_of_nodes_is_taken(self):
        for origin, goal in [(0, 1), (1, 0), (0, 63), (63, 0), (62, 63), (31, 32), (32, 31)]:
            with self.subTest(origin=origin, goal=goal):
                self.check_taken(arc(origin, goal))

    def test_ends_that_are_not_two_nodes(self):
        for origin, goal in NO_TWO_NODES:
            with self.subTest(origin=origin, goal=goal):
                self.check_refused(arc(origin, goal))

    def test_no_arc_from_a_node_to_itself(self):
        for node in range(64):
            self.assertEqual(ask(arc(node, node)), [[-1]])

    def test_capacity_within_its_bounds(self):
        for capacity in [0, 1, 999999999, 1000000000]:
            with self.subTest(capacity=capacity):
                self.check_taken(arc(2, 3, capacity))

    def test_capacity_outside_its_bounds(self):
        outside = [-1, 1000000001, LEAST, GREATEST, LEAST_64, GREATEST_64, 2 ** 32, -(2 ** 32), 2 ** 32 + 5]
        for capacity in outside:
            with self.subTest(capacity=capacity):
                self.check_refused(arc(2, 3, capacity))

    def test_cost_within_its_bounds(self):
        for cost in [-1000000, -999999, -1, 0, 1, 999999, 1000000]:
            with self.subTest(cost=cost):
                self.check_taken(arc(2, 3, 1, cost))

    def test_cost_outside_its_bounds(self):
        outside = [-1000001, 1000001, LEAST, GREATEST, LEAST_64, GREATEST_64, 2 ** 32, -(2 ** 32), 2 ** 32 + 5]
        for cost in outside:
            with self.subTest(cost=cost):
                self.check_refused(arc(2, 3, 1, cost))

    def test_several_faults_at_once(self):
        self.check_refused(arc(LEAST, LEAST, LEAST_64, LEAST_64))
        self.check_refused(arc(GREATEST, GREATEST, GREATEST_64, GREATEST_64))
        self.check_refused(arc(7, 7, -1, 1000001))

    def test_arcs_between_the_same_nodes_are_arcs_of_their_own(self):
        self.assertEqual(ask(arc(0, 1, 3), arc(0, 1, 4), most(0, 1)), [[0], [1], [7]])
        self.assertEqual(ask(arc(0, 1, 3), arc(0, 1, 3), most(0, 1)), [[0], [1], [6]])

    def test_arcs_both_ways_are_arcs_of_their_own(self):
        self.assertEqual(ask(arc(0, 1, 3), arc(1, 0, 4), most(0, 1), most(1, 0)), [[0], [1], [3], [4]])

    def test_fewer_than_512_arcs(self):
        net = Net()
        numbers = [net.add_arc(0, 1, 1, 0) for count in range(514)]
        self.assertEqual(numbers, list(range(512)) + [-1, -1])
        self.assertEqual(net.drop_arc(), 511)
        self.assertEqual(net.add_arc(0, 1, 1, 0), 511)
        self.assertEqual(net.add_arc(0, 1, 1, 0), -1)


class DropTest(unittest.TestCase):
    def test_how_many_are_left(self):
        told = ask(arc(0, 1), arc(1, 2), arc(2, 3), drop(), drop(), drop())
        self.assertEqual(told, [[0], [1], [2], [2], [1], [0]])

    def test_none_to_drop(self):
        self.assertEqual(ask(drop()), [[-1]])
        self.assertEqual(ask(drop(), drop(), arc(0, 1)), [[-1], [-1], [0]])
        self.assertEqual(ask(arc(0, 1), drop(), drop(), arc(0, 1)), [[0], [0], [-1], [0]])

    def test_next_arc_has_the_number_of_the_dropped_one(self):
        told = ask(arc(0, 1), arc(1, 2), drop(), arc(3, 4), arc(4, 5))
        self.assertEqual(told, [[0], [1], [1], [1], [2]])

    def test_it_is_the_last_arc_that_goes(self):
        self.assertEqual(ask_last(arc(0, 1, 5), arc(0, 1, 7), drop(), most(0, 1)), [5])
        self.assertEqual(ask_last(arc(0, 1, 7), arc(0, 1, 5), drop(), most(0, 1)), [7])

    def test_a_refused_arc_is_not_dropped(self):
        self.assertEqual(ask(arc(0, 1, 5), arc(0, 0), drop(), most(0, 1)), [[0], [-1], [0], [0]])

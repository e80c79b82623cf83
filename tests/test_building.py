"""create_network, add_link, add_flow and add_path."""

import unittest

from tests.request import (
    HUGE, Refusals, add_flow, add_link, add_path, assignment, create_network, last_result, link_loads, place_flow,
    results,
)

PAIRS = [(a, b) for b in range(6) for a in range(b)]
FULL_OF_LINKS = [create_network(6)] + [add_link(a, b, 5) for a, b in PAIRS[:10]]
FREE_PAIR = PAIRS[10]
FULL_OF_FLOWS = [create_network(3), add_link(0, 1, 9)] + [add_flow(0, 1, 2)] * 5
SQUARE = [
    create_network(4), add_link(0, 1, 9), add_link(2, 1, 9), add_link(2, 3, 9), add_link(3, 0, 9), add_link(0, 2, 9),
    add_flow(0, 2, 3),
]
FULL_OF_PATHS = SQUARE + [add_path(0, [0, 2]), add_path(0, [0, 1, 2]), add_path(0, [0, 3, 2])]


class CreateNetworkTest(Refusals, unittest.TestCase):
    def test_answers_zero_from_two_to_six_nodes(self):
        for node_count in range(2, 7):
            self.assertEqual(results([create_network(node_count)]), [[0]])

    def test_has_as_many_nodes_as_asked_for(self):
        for node_count in range(2, 7):
            calls = [create_network(node_count)]
            self.assertEqual(last_result(calls + [add_link(0, node_count - 1, 1)]), [0])
            self.assertEqual(last_result(calls + [add_link(0, node_count, 1)]), [-2])

    def test_begins_without_links_and_flows(self):
        self.assertEqual(results([create_network(3), link_loads(), assignment()]), [[0], [0], [0]])

    def test_refuses_other_node_counts(self):
        for node_count in (0, 1, 7, 8, 100, HUGE):
            self.assertEqual(results([create_network(node_count)]), [[-22]])

    def test_replaces_the_network(self):
        calls = FULL_OF_PATHS + [place_flow(0, 0), create_network(3), link_loads(), assignment()]
        self.assertEqual(results(calls)[-3:], [[0], [0], [0]])
        self.assertEqual(last_result(calls + [add_link(0, 3, 1)]), [-2])
        self.assertEqual(last_result(calls + [add_path(0, [0, 2])]), [-2])
        self.assertEqual(last_result(calls + [add_link(0, 1, 1)]), [0])
        self.assertEqual(last_result(calls + [add_flow(0, 1, 1)]), [0])

    def test_leaves_the_network_when_it_refuses(self):
        for node_count in (0, 1, 7, HUGE):
            self.check_refused(FULL_OF_PATHS + [place_flow(0, 1)], create_network(node_count), -22)


class AddLinkTest(Refusals, unittest.TestCase):
    def test_answers_indices_in_order(self):
        self.assertEqual(results(FULL_OF_LINKS), [[0]] + [[index] for index in range(10)])

    def test_takes_capacities_from_0_to_99(self):
        calls = [create_network(4), add_link(0, 1, 0), add_link(1, 2, 99), add_link(3, 2, 1)]
        self.assertEqual(last_result(calls + [link_loads()]), [3, 0, 0, 0, 99, 0, 1])

    def test_refuses_a_missing_node(self):
        for node_a, node_b in ((3, 0), (0, 3), (3, 4), (HUGE, 0), (0, HUGE)):
            self.check_refused([create_network(3)], add_link(node_a, node_b, 1), -2)

    def test_refuses_equal_nodes(self):
        for node in range(3):
            self.check_refused([create_network(3)], add_link(node, node, 1), -22)

    def test_refuses_too_large_a_capacity(self):
        for capacity in (100, 101, HUGE):
            self.check_refused([create_network(3)], add_link(0, 1, capacity), -22)

    def test_refuses_connected_nodes_in_both_orders(self):
        calls = [create_network(3), add_link(0, 1, 5), add_link(1, 2, 5)]
        for node_a, node_b in ((0, 1), (1, 0), (1, 2), (2, 1)):
            self.check_refused(calls, add_link(node_a, node_b, 7), -17)
        self.assertEqual(last_result(calls + [add_link(2, 0, 7)]), [2])

    def test_refuses_an_eleventh_link(self):
        self.check_refused(FULL_OF_LINKS, add_link(*FREE_PAIR, 5), -28)
        self.assertEqual(last_result(FULL_OF_LINKS[:-1] + [add_link(*FREE_PAIR, 5)]), [9])

    def test_a_missing_node_comes_before_an_invalid_argument(self):
        for call in (add_link(6, 6, 5), add_link(0, 6, 100), add_link(6, 0, 100), add_link(HUGE, HUGE, HUGE)):
            self.check_refused([create_network(6)], call, -2)

    def test_a_missing_node_comes_before_the_limit(self):
        self.check_refused(FULL_OF_LINKS, add_link(0, 6, 5), -2)

    def test_an_invalid_argument_comes_before_connected_nodes_and_the_limit(self):
        self.check_refused([create_network(3), add_link(0, 1, 5)], add_link(0, 1, 100), -22)
        self.check_refused(FULL_OF_LINKS, add_link(0, 0, 5), -22)
        self.check_refused(FULL_OF_LINKS, add_link(*FREE_PAIR, 100), -22)

    def test_connected_nodes_come_before_the_limit(self):
        self.check_refused(FULL_OF_LINKS, add_link(1, 0, 5), -17)


class AddFlowTest(Refusals, unittest.TestCase):
    def test_answers_indices_in_order(self):
        self.assertEqual(results(FULL_OF_FLOWS)[2:], [[0], [1], [2], [3], [4]])

    def test_appends_an_inactive_flow_without_paths(self):
        calls = [create_network(2), add_link(0, 1, 9), add_flow(1, 0, 4)]
        self.assertEqual(last_result(calls + [assignment()]), [1, 0])
        self.assertEqual(last_result(calls + [place_flow(0, 0)]), [-2])
        self.assertEqual(last_result(calls + [add_path(0, [1, 0])]), [0])

    def test_needs_no_link(self):
        self.assertEqual(last_result([create_network(2), add_flow(0, 1, 1)]), [0])

    def test_takes_demands_from_1_to_99(self):
        for demand in (1, 2, 50, 99):
            calls = [create_network(2), add_link(0, 1, 99), add_flow(0, 1, demand), add_path(0, [0, 1])]
            self.assertEqual(results(calls + [place_flow(0, 0)])[2:], [[0], [0], [demand]])

    def test_refuses_a_missing_node(self):
        for source, destination in ((3, 0), (0, 3), (3, 4), (HUGE, 0), (0, HUGE)):
            self.check_refused([create_network(3)], add_flow(source, destination, 1), -2)

    def test_refuses_equal_nodes(self):
        for node in range(3):
            self.check_refused([create_network(3)], add_flow(node, node, 1), -22)

    def test_refuses_demands_out_of_range(self):
        for demand in (0, 100, 101, HUGE):
            self.check_refused([create_network(3)], add_flow(0, 1, demand), -22)

    def test_refuses_a_sixth_flow(self):
        self.check_refused(FULL_OF_FLOWS, add_flow(1, 2, 1), -28)

    def test_a_missing_node_comes_first(self):
        for call in (add_flow(3, 3, 5), add_flow(0, 3, 0), add_flow(3, 0, 100), add_flow(HUGE, HUGE, HUGE)):
            self.check_refused([create_network(3)], call, -2)
        self.check_refused(FULL_OF_FLOWS, add_flow(0, 3, 5), -2)

    def test_an_invalid_argument_comes_before_the_limit(self):
        for call in (add_flow(0, 0, 5), add_flow(0, 1, 0), add_flow(0, 1, 100)):
            self.check_refused(FULL_OF_FLOWS, call, -22)


class AddPathTest(Refusals, unittest.TestCase):
    def test_answers_indices_in_order(self):
        self.assertEqual(results(FULL_OF_PATHS)[-3:], [[0], [1], [2]])

    def test_counts_the_paths_of_each_flow_by_itself(self):
        calls = FULL_OF_PATHS + [add_flow(0, 2, 1), add_path(1, [0, 3, 2]), add_path(1, [0, 2])]
        self.assertEqual(results(calls)[-2:], [[0], [1]])

    def test_uses_the_links_in_either_direction(self):
        for nodes, loads in (([0, 1, 2], [3, 3, 0, 0, 0]), ([0, 3, 2], [0, 0, 3, 3, 0]), ([0, 2], [0, 0, 0, 0, 3])):
            calls = SQUARE + [add_path(0, nodes), place_flow(0, 0), link_loads()]
            self.assertEqual(last_result(calls), [5] + joined_with_nine(loads))
            backwards = SQUARE + [add_flow(2, 0, 3), add_path(1, nodes[::-1]), place_flow(1, 0), link_loads()]
            self.assertEqual(last_result(backwards), [5] + joined_with_nine(loads))

    def test_takes_a_path_through_all_six_nodes(self):
        calls = [create_network(6)] + [add_link(node, node + 1, 9) for node in range(5)]
        calls += [add_flow(0, 5, 4), add_path(0, [0, 1, 2, 3, 4, 5]), place_flow(0, 0), link_loads()]
        self.assertEqual(results(calls)[-3:], [[0], [4], [5] + joined_with_nine([4] * 5)])

    def test_leaves_the_flow_inactive(self):
        self.assertEqual(last_result(FULL_OF_PATHS + [assignment()]), [1, 0])

    def test_refuses_a_missing_flow(self):
        for flow in (1, 4, 5, HUGE):
            self.check_refused(SQUARE, add_path(flow, [0, 2]), -2)
        self.check_refused([create_network(3), add_link(0, 1, 5)], add_path(0, [0, 1]), -2)

    def test_refuses_too_short_a_list(self):
        for nodes in ([], [0], [2]):
            self.check_refused(SQUARE, add_path(0, nodes), -22)

    def test_refuses_a_node_twice(self):
        for nodes in ([0, 1, 0, 2], [0, 2, 3, 2], [0, 1, 2, 3, 0, 2], [0, 0, 2], [0, 1, 0, 1, 0, 1, 0, 2]):
            self.check_refused(SQUARE, add_path(0, nodes), -22)

    def test_refuses_a_wrong_first_or_last_node(self):
        for nodes in ([1, 2], [3, 0, 2], [0, 1], [0, 2, 3], [2, 0], [2, 1, 0], [1, 0, 3]):
            self.check_refused(SQUARE, add_path(0, nodes), -22)

    def test_refuses_nodes_that_no_link_connects(self):
        for nodes in ([0, 1, 3, 2], [0, 3, 1, 2]):
            self.check_refused(SQUARE, add_path(0, nodes), -22)
        unlinked = [create_network(4), add_link(0, 1, 9), add_link(2, 3, 9), add_flow(0, 2, 3)]
        for nodes in ([0, 2], [0, 1, 2], [0, 3, 2], [0, 1, 3, 2]):
            self.check_refused(unlinked, add_path(0, nodes), -22)

    def test_refuses_a_node_that_does_not_exist(self):
        for nodes in ([0, 4, 2], [0, HUGE, 2], [4, 2], [0, 4], [HUGE] * 8):
            self.check_refused(SQUARE, add_path(0, nodes), -22)

    def test_refuses_eight_nodes(self):
        self.check_refused(SQUARE, add_path(0, [0, 1, 2, 3, 4, 5, 6, 2]), -22)
        self.check_refused(SQUARE, add_path(0, [0, 1, 2, 3, 0, 1, 0, 2]), -22)

    def test_refuses_a_path_that_the_flow_has(self):
        calls = SQUARE + [add_path(0, [0, 2]), add_path(0, [0, 1, 2])]
        for nodes in ([0, 2], [0, 1, 2]):
            self.check_refused(calls, add_path(0, nodes), -17)

    def test_another_flow_may_have_the_same_path(self):
        self.assertEqual(last_result(FULL_OF_PATHS + [add_flow(0, 2, 1), add_path(1, [0, 2])]), [0])

    def test_refuses_a_fourth_path(self):
        self.check_refused(FULL_OF_PATHS + [add_link(1, 3, 9)], add_path(0, [0, 1, 3, 2]), -28)

    def test_a_missing_flow_comes_first(self):
        for nodes in ([], [0], [9, 9], [HUGE] * 8):
            self.check_refused(FULL_OF_PATHS, add_path(1, nodes), -2)

    def test_an_invalid_list_comes_before_the_limit(self):
        for nodes in ([], [0, 1], [0, 1, 3, 2]):
            self.check_refused(FULL_OF_PATHS, add_path(0, nodes), -22)

    def test_a_known_path_comes_before_the_limit(self):
        for nodes in ([0, 2], [0, 1, 2], [0, 3, 2]):
            self.check_refused(FULL_OF_PATHS, add_path(0, nodes), -17)


def joined_with_nine(loads):
    return [number for load in loads for number in (load, 9)]


if __name__ == "__main__":
    unittest.main()

"""reachable_count, component_count, stuck_flows, flow_paths and totals."""

import unittest

from tests.request import (
    HUGE, Questions, add_flow, add_link, add_path, component_count, create_network, flow_paths, move_flow, place_flow,
    reachable_count, set_capacity, stop_flow, stuck_flows, totals,
)


def routes(capacities, flows):
    """Links 0-1, 0-2, 2-1, 0-3 and 3-1 with their capacities.

    Each flow goes from 0 to 1 and has its demand, the middle nodes of its paths (None for the link 0-1), and the path
    that it is placed on.
    """
    pairs = [(0, 1), (0, 2), (2, 1), (0, 3), (3, 1)]
    calls = [create_network(4)] + [add_link(a, b, capacity) for (a, b), capacity in zip(pairs, capacities)]
    for flow, (demand, middles, placed) in enumerate(flows):
        calls.append(add_flow(0, 1, demand))
        calls += [add_path(flow, [0, 1] if middle is None else [0, middle, 1]) for middle in middles]
        calls += [] if placed is None else [place_flow(flow, placed)]
    return calls


ALL = [None, 2, 3]
EMPTY = [create_network(3), add_link(0, 1, 5)]
INACTIVE = routes([5, 5, 5, 5, 5], [(5, ALL, None), (1, [2], None), (1, [], None)])
ROOMY = routes([9, 9, 9, 9, 9], [(4, ALL, 0), (5, [None, 2], 0)])
LOCKED = routes([5, 5, 5, 5, 5], [(5, [None, 2], 0), (5, [None, 2], 1)])
FREE = routes([5, 5, 5, 5, 5], [(5, ALL, 0), (5, ALL, 1)])
FULL = routes([5, 5, 5, 5, 5], [(5, ALL, 0), (5, ALL, 1), (5, ALL, 2)])
# The link 0-1 is on both paths of the flow.
COMMON = [
    create_network(4), add_link(0, 1, 5), add_link(1, 3, 5), add_link(1, 2, 5), add_link(2, 3, 5),
    add_flow(0, 3, 5), add_path(0, [0, 1, 3]), add_path(0, [0, 1, 2, 3]), place_flow(0, 0),
]


class ReachableCountTest(Questions, unittest.TestCase):
    def test_all_candidates_with_ample_room(self):
        self.check_told(ROOMY, reachable_count(), [6, 6])
        self.check_told(FREE, reachable_count(), [6, 6])

    def test_counts_the_current_assignment(self):
        self.check_told(LOCKED, reachable_count(), [1, 2])
        self.check_told(FULL, reachable_count(), [1, 6])

    def test_leaves_out_what_is_not_feasible(self):
        self.check_told(ROOMY + [set_capacity(1, 8)], reachable_count(), [5, 5])
        self.check_told(ROOMY + [set_capacity(1, 4)], reachable_count(), [3, 3])
        self.check_told(ROOMY + [set_capacity(1, 0), set_capacity(4, 0)], reachable_count(), [1, 1])

    def test_reaches_a_part_of_the_candidates(self):
        # Flows 0 and 1 can't exchange their places; flow 2 may move to and fro with them in either.
        calls = routes([5, 6, 6, 1, 1], [(5, [None, 2], 0), (5, [None, 2], 1), (1, [2, 3], 0)])
        self.check_told(calls, reachable_count(), [2, 4])

    def test_a_stopped_flow_counts_as_inactive(self):
        self.check_told(FULL + [stop_flow(2)], reachable_count(), [6, 6])
        self.check_told(LOCKED + [stop_flow(1)], reachable_count(), [2, 2])
        self.check_told(ROOMY + [stop_flow(0)], reachable_count(), [2, 2])

    def test_without_flows_and_with_only_inactive_ones(self):
        for calls in ([create_network(2)], EMPTY, INACTIVE):
            self.check_told(calls, reachable_count(), [1, 1])

    def test_a_flow_with_one_path(self):
        calls = routes([9, 9, 9, 9, 9], [(4, [2], 0), (4, ALL, 0)])
        self.check_told(calls, reachable_count(), [3, 3])

    def test_a_link_on_both_paths(self):
        self.check_told(COMMON, reachable_count(), [2, 2])


class ComponentCountTest(Questions, unittest.TestCase):
    def test_one_where_all_is_reachable(self):
        self.check_told(ROOMY, component_count(), [1, 6])
        self.check_told(FREE, component_count(), [1, 6])
        self.check_told(COMMON, component_count(), [1, 2])

    def test_counts_what_no_plan_connects(self):
        self.check_told(LOCKED, component_count(), [2, 2])
        self.check_told(FULL, component_count(), [6, 6])
        calls = routes([5, 6, 6, 1, 1], [(5, [None, 2], 0), (5, [None, 2], 1), (1, [2, 3], 0)])
        self.check_told(calls, component_count(), [2, 4])

    def test_is_the_same_from_every_candidate(self):
        # Links 0-1 and 0-2 hold one of the flows 0 and 1 each; where flow 0 is over 2, flow 2 may be there or not.
        calls = routes([6, 5, 5, 9, 9], [(4, [None, 2], 0), (5, [None, 2], 1), (1, [2, 3], 1)])
        self.check_told(calls, component_count(), [2, 3])
        self.check_told(calls, reachable_count(), [1, 3])
        other = calls + [stop_flow(1), move_flow(0, 1), place_flow(1, 0)]
        self.check_told(other, component_count(), [2, 3])
        self.check_told(other, reachable_count(), [2, 3])

    def test_leaves_out_what_is_not_feasible(self):
        self.check_told(ROOMY + [set_capacity(1, 8)], component_count(), [1, 5])
        self.check_told(routes([1, 0, 0, 1, 1], [(1, ALL, 0)]), component_count(), [1, 2])

    def test_without_flows_and_with_only_inactive_ones(self):
        for calls in ([create_network(2)], EMPTY, INACTIVE):
            self.check_told(calls, component_count(), [1, 1])


class StuckFlowsTest(Questions, unittest.TestCase):
    def test_flows_that_block_each_other(self):
        self.check_told(LOCKED, stuck_flows(0), [1, 0])
        self.check_told(LOCKED, stuck_flows(1), [1, 1])
        self.check_told(LOCKED, stuck_flows(2), [1, 1])
        self.check_told(LOCKED, stuck_flows(3), [0])

    def test_none_where_all_may_leave(self):
        for link in range(5):
            self.check_told(ROOMY, stuck_flows(link), [0])
            self.check_told(FREE, stuck_flows(link), [0])

    def test_a_flow_that_may_leave_by_more_than_one_move(self):
        calls = routes([5, 5, 5, 5, 5], [(5, [None, 2], 0), (5, [2, 3], 0)])
        self.check_told(calls, stuck_flows(0), [0])
        self.check_told(calls + [set_capacity(3, 4)], stuck_flows(0), [1, 0])
        self.check_told(calls + [set_capacity(3, 4)], stuck_flows(2), [1, 1])

    def test_tells_them_in_increasing_order(self):
        calls = routes([9, 9, 9, 9, 9], [(1, [2], 0), (1, ALL, 1), (2, [2], 0), (3, [2], None), (4, [2], 0)])
        self.check_told(calls, stuck_flows(1), [3, 0, 2, 4])
        self.check_told(calls, stuck_flows(2), [3, 0, 2, 4])
        self.check_told(calls, stuck_flows(0), [0])

    def test_a_link_on_both_paths(self):
        for calls in (COMMON, COMMON + [move_flow(0, 1)]):
            self.check_told(calls, stuck_flows(0), [1, 0])
            for link in (1, 2, 3):
                self.check_told(calls, stuck_flows(link), [0])

    def test_a_flow_with_one_path(self):
        calls = routes([9, 9, 9, 9, 9], [(4, [2], 0)])
        self.check_told(calls, stuck_flows(1), [1, 0])
        self.check_told(calls, stuck_flows(0), [0])
        self.check_told(calls + [stop_flow(0)], stuck_flows(1), [0])

    def test_a_flow_whose_other_paths_have_no_room(self):
        calls = routes([1, 0, 0, 0, 0], [(1, ALL, 0)])
        self.check_told(calls, stuck_flows(0), [1, 0])
        self.check_told(calls, stuck_flows(1), [0])

    def test_without_flows_and_with_only_inactive_ones(self):
        self.check_told(EMPTY, stuck_flows(0), [0])
        for link in range(5):
            self.check_told(INACTIVE, stuck_flows(link), [0])

    def test_refuses_a_missing_link(self):
        for link in (5, 9, 10, HUGE):
            self.check_told(LOCKED, stuck_flows(link), [-2])
        self.check_told([create_network(2)], stuck_flows(0), [-2])


class FlowPathsTest(Questions, unittest.TestCase):
    def test_tells_the_nodes_of_each_path(self):
        self.check_told(ROOMY, flow_paths(0), [3, 2, 0, 1, 3, 0, 2, 1, 3, 0, 3, 1])
        self.check_told(ROOMY, flow_paths(1), [2, 2, 0, 1, 3, 0, 2, 1])
        self.check_told(COMMON, flow_paths(0), [2, 3, 0, 1, 3, 4, 0, 1, 2, 3])

    def test_tells_them_in_the_order_in_which_they_were_added(self):
        calls = routes([9, 9, 9, 9, 9], [(1, [3, None, 2], 1)])
        self.check_told(calls, flow_paths(0), [3, 3, 0, 3, 1, 2, 0, 1, 3, 0, 2, 1])

    def test_keeps_the_direction(self):
        calls = EMPTY + [add_flow(1, 0, 1), add_path(0, [1, 0])]
        self.check_told(calls, flow_paths(0), [1, 2, 1, 0])

    def test_tells_paths_of_inactive_flows_and_of_flows_without_any(self):
        self.check_told(INACTIVE, flow_paths(0), [3, 2, 0, 1, 3, 0, 2, 1, 3, 0, 3, 1])
        self.check_told(INACTIVE, flow_paths(1), [1, 3, 0, 2, 1])
        self.check_told(INACTIVE, flow_paths(2), [0])

    def test_a_path_through_all_six_nodes(self):
        calls = [create_network(6)] + [add_link(node, node + 1, 9) for node in range(5)]
        calls += [add_flow(5, 0, 4), add_path(0, [5, 4, 3, 2, 1, 0])]
        self.check_told(calls, flow_paths(0), [1, 6, 5, 4, 3, 2, 1, 0])

    def test_refuses_a_missing_flow(self):
        for flow in (2, 4, 5, HUGE):
            self.check_told(ROOMY, flow_paths(flow), [-2])
        self.check_told(EMPTY, flow_paths(0), [-2])


class TotalsTest(Questions, unittest.TestCase):
    def test_counts_nodes_links_and_flows(self):
        self.check_told([create_network(2)], totals(), [2, 0, 0, 0])
        self.check_told(EMPTY, totals(), [3, 1, 0, 0])
        self.check_told(COMMON, totals(), [4, 4, 1, 5])
        self.check_told(FULL, totals(), [4, 5, 3, 15])

    def test_sums_the_demands_of_active_flows_alone(self):
        self.check_told(INACTIVE, totals(), [4, 5, 3, 0])
        self.check_told(INACTIVE + [place_flow(0, 2)], totals(), [4, 5, 3, 5])
        self.check_told(ROOMY, totals(), [4, 5, 2, 9])
        self.check_told(ROOMY + [stop_flow(0)], totals(), [4, 5, 2, 5])
        self.check_told(ROOMY + [move_flow(0, 2)], totals(), [4, 5, 2, 9])

    def test_the_largest_numbers(self):
        calls = [create_network(6)] + [add_link(a, b, 99) for b in range(5) for a in range(b)]
        for flow in range(5):
            ends = [flow, (flow + 1) % 5]
            calls += [add_flow(*ends, 99), add_path(flow, ends), place_flow(flow, 0)]
        self.check_told(calls, totals(), [6, 10, 5, 495])


if __name__ == "__main__":
    unittest.main()

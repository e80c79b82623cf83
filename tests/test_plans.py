"""allowed_moves, plan_to, plan_link_drain, plan_node_drain and drain_link."""

import unittest

from tests.request import (
    HUGE, Questions, add_flow, add_link, add_path, allowed_moves, assignment, create_network, drain_link, last_result,
    link_loads, move_flow, place_flow, plan_link_drain, plan_node_drain, plan_to, results, set_capacity, stop_flow,
)


def fan(capacities, flows):
    """Routes from 0 to 1: the link 0-1, then over node 2, 3 and so on, each link of a route with its capacity.

    Each flow goes from 0 to 1 and has its demand, the routes that are its paths, and the path that it is placed on.
    """
    calls = [create_network(len(capacities) + 1), add_link(0, 1, capacities[0])]
    for node, capacity in enumerate(capacities[1:], 2):
        calls += [add_link(0, node, capacity), add_link(node, 1, capacity)]
    for flow, (demand, routes, placed) in enumerate(flows):
        calls.append(add_flow(0, 1, demand))
        calls += [add_path(flow, [0, route + 1, 1] if route else [0, 1]) for route in routes]
        calls += [] if placed is None else [place_flow(flow, placed)]
    return calls


EMPTY = [create_network(3), add_link(0, 1, 5), add_link(1, 2, 0)]
INACTIVE = fan([5, 5, 5], [(5, [0, 1, 2], None), (1, [0], None), (1, [], None)])
ROOMY = fan([9, 9, 9], [(4, [0, 1, 2], 0), (5, [1, 0], 0)])
# Two flows hold a route each and each wants the other's; only in FREE a third route has room for one of them.
LOCKED = fan([5, 5], [(5, [0, 1], 0), (5, [0, 1], 1)])
FREE = fan([5, 5, 5], [(5, [0, 1, 2], 0), (5, [0, 1, 2], 1)])
# Here a third flow holds the third route, and has one of its own to step aside to.
ASIDE = fan([5, 5, 5, 5], [(5, [0, 1, 2], 0), (5, [0, 1, 2], 1), (5, [2, 3], 0)])
ONE_PATH = fan([9, 9], [(4, [0], 0), (2, [0, 1], 0)])
# The link 0-1 is on both paths and full.
COMMON = [
    create_network(4), add_link(0, 1, 5), add_link(1, 3, 5), add_link(1, 2, 5), add_link(2, 3, 5),
    add_flow(0, 3, 5), add_path(0, [0, 1, 3]), add_path(0, [0, 1, 2, 3]), place_flow(0, 0),
]


class AllowedMovesTest(Questions, unittest.TestCase):
    def test_tells_moves_by_flow_then_by_path(self):
        self.check_told(ROOMY, allowed_moves(), [3, 0, 1, 0, 2, 1, 1])
        self.check_told(ROOMY + [move_flow(0, 1)], allowed_moves(), [3, 0, 0, 0, 2, 1, 1])
        self.check_told(ROOMY + [move_flow(0, 2), move_flow(1, 1)], allowed_moves(), [3, 0, 0, 0, 1, 1, 0])

    def test_leaves_out_paths_without_room(self):
        calls = fan([9, 3, 4], [(4, [0, 1, 2], 0), (3, [1, 2, 0], 2)])
        self.check_told(calls, allowed_moves(), [3, 0, 2, 1, 0, 1, 1])
        self.check_told(calls + [set_capacity(4, 3)], allowed_moves(), [2, 1, 0, 1, 1])
        self.check_told(calls + [move_flow(0, 2)], allowed_moves(), [2, 0, 0, 1, 0])
        self.check_told(fan([9, 0], [(1, [0, 1], 0)]), allowed_moves(), [0])

    def test_none_where_two_flows_block_each_other(self):
        self.check_told(LOCKED, allowed_moves(), [0])

    def test_asks_for_no_room_on_a_common_link(self):
        self.check_told(COMMON, allowed_moves(), [1, 0, 1])
        self.check_told(COMMON + [move_flow(0, 1)], allowed_moves(), [1, 0, 0])

    def test_without_flows_or_with_none_that_may_move(self):
        self.check_told([create_network(2)], allowed_moves(), [0])
        self.check_told(EMPTY, allowed_moves(), [0])
        self.check_told(INACTIVE, allowed_moves(), [0])
        self.check_told(INACTIVE + [place_flow(1, 0)], allowed_moves(), [0])
        self.check_told(ROOMY + [stop_flow(0)], allowed_moves(), [1, 1, 1])

    def test_are_just_the_moves_that_move_flow_does(self):
        for calls in (ROOMY, LOCKED, FREE, ASIDE, ONE_PATH, COMMON, INACTIVE):
            pairs = [(flow, path) for flow in range(5) for path in range(3)]
            done = [pair for pair in pairs if last_result(calls + [move_flow(*pair)])[0] >= 0]
            self.check_told(calls, allowed_moves(), [len(done)] + [number for pair in done for number in pair])


class PlanToTest(Questions, unittest.TestCase):
    def test_no_moves_to_where_the_flows_are(self):
        for calls, target in ((ROOMY, [1, 1]), (LOCKED, [1, 2]), (COMMON, [1]), (ONE_PATH + [stop_flow(0)], [0, 1])):
            self.check_told(calls, plan_to(target), [0])

    def test_moves_each_flow_to_its_path(self):
        self.check_told(ROOMY, plan_to([3, 1]), [1, 0, 2])
        self.check_told(ROOMY, plan_to([1, 2]), [1, 1, 1])
        self.check_told(ROOMY + [move_flow(0, 2)], plan_to([1, 2]), [2, 0, 0, 1, 1])

    def test_makes_room_first(self):
        calls = fan([5, 5, 5], [(5, [0, 1], 0), (5, [1, 2], 0)])
        self.check_told(calls, plan_to([2, 2]), [2, 1, 1, 0, 1])
        self.check_told(ROOMY + [set_capacity(1, 8)], plan_to([2, 2]), [2, 1, 1, 0, 1])

    def test_of_the_shortest_plans_the_first_in_the_order_of_moves(self):
        self.check_told(ROOMY, plan_to([2, 2]), [2, 0, 1, 1, 1])
        three = fan([9, 9], [(1, [0, 1], 0), (1, [0, 1], 0), (1, [0, 1], 0)])
        self.check_told(three, plan_to([2, 2, 2]), [3, 0, 1, 1, 1, 2, 1])
        # Either flow may step aside to the third route.
        self.check_told(FREE, plan_to([2, 1]), [3, 0, 2, 1, 0, 0, 1])
        # Flow 0 can't go first here, but behind flow 1 it comes before flow 2.
        blocked = fan([5, 5, 5, 5, 5], [(5, [0, 1], 0), (5, [1, 2], 0), (5, [3, 4], 0)])
        self.check_told(blocked, plan_to([2, 2, 2]), [3, 1, 1, 0, 1, 2, 1])

    def test_a_flow_moves_away_and_back(self):
        plan = [5, 2, 1, 0, 2, 1, 0, 0, 1, 2, 0]
        self.check_told(ASIDE, plan_to([2, 1, 1]), plan)
        moves = [move_flow(*plan[at:at + 2]) for at in range(1, len(plan), 2)]
        self.assertEqual(results(ASIDE + moves + [assignment()])[-6:], [[0], [0], [1], [2], [1], [3, 2, 1, 1]])

    def test_two_flows_without_room_cannot_exchange_their_paths(self):
        self.check_told(LOCKED, plan_to([2, 1]), [-33])
        taken = fan([5, 5, 5], [(5, [0, 1, 2], 0), (5, [0, 1, 2], 1), (5, [2], 0)])
        self.check_told(taken, plan_to([2, 1, 1]), [-33])
        self.check_told(taken + [stop_flow(2)], plan_to([2, 1, 0]), [3, 0, 2, 1, 0, 0, 1])
        self.check_told(LOCKED + [set_capacity(0, 10)], plan_to([2, 1]), [2, 1, 0, 0, 1])

    def test_asks_for_no_room_on_a_common_link(self):
        self.check_told(COMMON, plan_to([2]), [1, 0, 1])

    def test_without_flows_and_with_only_inactive_ones(self):
        self.check_told([create_network(2)], plan_to([]), [0])
        self.check_told(EMPTY, plan_to([]), [0])
        self.check_told(EMPTY, plan_to([0]), [-22])
        self.check_told(INACTIVE, plan_to([0, 0, 0]), [0])

    def test_refuses_a_list_of_another_length(self):
        for target in ([], [1], [1, 2, 0], [1, 2, 1], [1] * 8):
            self.check_told(ROOMY, plan_to(target), [-22])
        self.check_told(INACTIVE, plan_to([]), [-22])

    def test_refuses_a_path_that_the_flow_does_not_have(self):
        for target in ([4, 2], [1, 3], [HUGE, 2], [1, HUGE], [HUGE] * 2):
            self.check_told(ROOMY, plan_to(target), [-22])
        self.check_told(INACTIVE, plan_to([0, 0, 1]), [-22])

    def test_refuses_a_flow_that_is_inactive_in_just_one(self):
        for target in ([0, 2], [1, 0], [0, 0]):
            self.check_told(ROOMY, plan_to(target), [-22])
        for target in ([1, 0, 0], [0, 1, 0], [3, 1, 0]):
            self.check_told(INACTIVE, plan_to(target), [-22])
        self.check_told(ROOMY + [stop_flow(0)], plan_to([1, 2]), [-22])

    def test_refuses_a_target_that_is_not_feasible(self):
        self.check_told(LOCKED, plan_to([1, 1]), [-35])
        self.check_told(FREE, plan_to([3, 3]), [-35])
        self.check_told(fan([9, 0], [(1, [0, 1], 0)]), plan_to([2]), [-35])
        self.check_told(ROOMY, plan_to([2, 1]), [1, 0, 1])
        self.check_told(ROOMY + [set_capacity(1, 8)], plan_to([2, 1]), [-35])

    def test_a_full_link_is_feasible(self):
        self.check_told(fan([4, 4], [(4, [0, 1], 0)]), plan_to([2]), [1, 0, 1])
        self.check_told(fan([4, 3], [(4, [0, 1], 0)]), plan_to([2]), [-35])

    def test_an_invalid_list_comes_before_a_target_that_is_not_feasible(self):
        for target in ([1, 1, 1], [1], [1, 1, 0]):
            self.check_told(LOCKED, plan_to(target), [-22])
        crowded = fan([5, 5], [(5, [0, 1], 0), (5, [0, 1], 1), (5, [0], None)])
        for target in ([1, 1, 1], [1, 1, 2], [1, 3, 0], [0, 1, 1]):
            self.check_told(crowded, plan_to(target), [-22])
        self.check_told(crowded, plan_to([1, 1, 0]), [-35])

    def test_a_target_that_is_not_feasible_comes_before_no_plan(self):
        self.check_told(LOCKED, plan_to([2, 2]), [-35])
        self.check_told(LOCKED, plan_to([2, 1]), [-33])


class DrainChecks(Questions):
    """plan_link_drain and drain_link answer alike, but only drain_link executes the plan."""

    def check_drain(self, calls, link, told):
        self.check_told(calls, plan_link_drain(link), told)
        if told[0] < 0:
            self.check_refused(calls, drain_link(link), told[0])
            return
        moves = [move_flow(*told[at:at + 2]) for at in range(1, len(told), 2)]
        behind = [assignment(), link_loads()]
        drained = results(calls + [drain_link(link)] + behind)[-3:]
        self.assertEqual(drained, [told] + results(calls + moves + behind)[-2:])
        self.assertEqual(drained[2][1 + 2 * link], 0)


class LinkDrainTest(DrainChecks, unittest.TestCase):
    def test_a_link_that_is_drained_already(self):
        self.check_drain(ROOMY, 3, [0])
        self.check_drain(ROOMY + [stop_flow(0)], 0, [0])
        self.check_drain(COMMON, 2, [0])

    def test_without_flows_and_with_only_inactive_ones(self):
        for link in (0, 1):
            self.check_drain(EMPTY, link, [0])
            self.check_drain(INACTIVE, link, [0])

    def test_a_link_of_capacity_0(self):
        calls = fan([9, 0], [(1, [0, 1], 0)])
        self.check_drain(calls, 1, [0])
        self.check_drain(calls, 0, [-33])

    def test_moves_the_flow_to_its_first_path_with_room(self):
        self.check_drain(ROOMY, 0, [1, 0, 1])
        self.check_drain(ROOMY + [set_capacity(1, 8)], 0, [1, 0, 2])
        self.check_drain(ROOMY + [move_flow(0, 1)], 1, [2, 0, 0, 1, 1])
        self.check_drain(ROOMY + [move_flow(0, 1), set_capacity(0, 8)], 1, [2, 0, 2, 1, 1])

    def test_moves_every_flow_that_uses_the_link(self):
        calls = fan([9, 9], [(1, [0, 1], 0), (2, [1, 0], 0), (3, [1, 0], 1)])
        self.check_drain(calls, 0, [2, 0, 1, 2, 0])
        self.check_drain(calls, 1, [1, 1, 1])
        self.check_drain(calls, 2, [1, 1, 1])

    def test_moves_another_flow_out_of_the_way(self):
        calls = fan([5, 5, 5], [(5, [0, 1], 0), (5, [1, 2], 0)])
        self.check_drain(calls, 0, [2, 1, 1, 0, 1])
        self.check_drain(calls + [set_capacity(4, 4)], 0, [-33])

    def test_of_the_targets_the_one_with_the_fewest_moves(self):
        # By its path 1 flow 0 needs flow 1 to go first; its path 2 is free.
        calls = fan([5, 5, 5], [(5, [0, 1, 2], 0), (5, [1, 0], 0)])
        self.check_drain(calls, 0, [1, 0, 2])

    def test_of_the_shortest_plans_the_first_in_the_order_of_moves(self):
        calls = fan([6, 3, 3], [(3, [0, 2, 1], 0), (3, [0, 2, 1], 0)])
        self.check_drain(calls, 0, [2, 0, 1, 1, 2])
        # Flow 0 or flow 1 may make room for flow 2.
        calls = fan([5, 4, 4, 2], [(2, [1, 3], 0), (2, [1, 3], 0), (2, [0, 1], 0)])
        self.check_drain(calls, 0, [2, 0, 1, 2, 1])

    def test_a_flow_with_one_path_stays(self):
        self.check_drain(ONE_PATH, 0, [-33])
        self.check_drain(ONE_PATH + [stop_flow(0)], 0, [1, 1, 1])

    def test_a_link_on_every_path_stays_used(self):
        self.check_drain(COMMON, 0, [-33])
        self.check_drain(COMMON, 1, [1, 0, 1])
        self.check_drain(COMMON + [move_flow(0, 1)], 2, [1, 0, 0])
        self.check_drain(COMMON + [set_capacity(3, 4)], 1, [-33])

    def test_two_flows_that_block_each_other(self):
        for link in range(3):
            self.check_drain(LOCKED, link, [-33])

    def test_a_target_that_no_plan_leads_to(self):
        # Flow 0 has room on the second route only once flows 1 and 2 have exchanged theirs, which they can't.
        calls = fan([2, 5, 5], [(2, [0, 1], 0), (5, [1, 2], 0), (3, [2, 1], 0)])
        self.check_told(calls, plan_to([2, 2, 2]), [-33])
        self.check_drain(calls, 0, [-33])
        apart = calls + [stop_flow(1), move_flow(2, 1), place_flow(1, 1)]
        self.check_drain(apart, 0, [1, 0, 1])

    def test_refuses_a_missing_link(self):
        for link in (3, 9, 10, HUGE):
            self.check_drain(LOCKED, link, [-2])
        self.check_drain([create_network(2)], 0, [-2])

    def test_drains_links_one_after_another(self):
        calls = fan([9, 9, 9], [(4, [0, 1, 2], 0), (5, [0, 1, 2], 0), (9, [0, 1, 2], None)])
        told = results(calls + [drain_link(0), drain_link(1), drain_link(0), drain_link(4), assignment()])[-5:]
        self.assertEqual(told, [[2, 0, 1, 1, 1], [2, 0, 0, 1, 0], [2, 0, 1, 1, 1], [0], [3, 2, 2, 0]])


class NodeDrainTest(Questions, unittest.TestCase):
    def test_takes_the_flows_off_all_links_of_the_node(self):
        calls = fan([9, 9, 9], [(4, [1, 0], 0), (3, [2, 0], 0), (2, [1, 2], 0)])
        self.check_told(calls, plan_node_drain(2), [2, 0, 1, 2, 1])
        self.check_told(calls, plan_node_drain(3), [1, 1, 1])

    def test_counts_a_link_added_in_either_direction(self):
        for pair in ((2, 0), (0, 2)):
            calls = [
                create_network(4), add_link(0, 1, 5), add_link(*pair, 5), add_link(2, 1, 5), add_flow(0, 1, 5),
                add_path(0, [0, 2, 1]), add_path(0, [0, 1]), place_flow(0, 0),
            ]
            self.check_told(calls, plan_node_drain(2), [1, 0, 1])

    def test_a_node_that_is_drained_already(self):
        self.check_told(ROOMY, plan_node_drain(3), [0])
        self.check_told(ROOMY + [add_flow(3, 1, 1), add_path(2, [3, 1])], plan_node_drain(3), [0])
        self.check_told([create_network(2)], plan_node_drain(1), [0])

    def test_without_flows_and_with_only_inactive_ones(self):
        for node in range(3):
            self.check_told(EMPTY, plan_node_drain(node), [0])
            self.check_told(INACTIVE, plan_node_drain(node), [0])

    def test_a_node_at_which_an_active_flow_starts_or_ends(self):
        for node in (0, 1):
            self.check_told(ROOMY, plan_node_drain(node), [-33])
            self.check_told(ROOMY + [stop_flow(0)], plan_node_drain(node), [-33])
            self.check_told(ROOMY + [stop_flow(0), stop_flow(1)], plan_node_drain(node), [0])

    def test_another_flow_goes_out_of_the_way(self):
        calls = fan([5, 5, 5], [(5, [1, 0], 0), (5, [0, 2], 0)])
        self.check_told(calls, plan_node_drain(2), [2, 1, 1, 0, 1])
        self.check_told(calls, plan_node_drain(3), [0])
        self.check_told(calls + [set_capacity(4, 4)], plan_node_drain(2), [-33])

    def test_of_the_shortest_plans_the_first_in_the_order_of_moves(self):
        calls = fan([3, 6, 3], [(3, [1, 2, 0], 0), (3, [1, 2, 0], 0)])
        self.check_told(calls, plan_node_drain(2), [2, 0, 1, 1, 2])

    def test_a_flow_with_one_path_stays(self):
        self.check_told(fan([9, 9], [(4, [1], 0)]), plan_node_drain(2), [-33])

    def test_refuses_a_missing_node(self):
        for node in (3, 6, HUGE):
            self.check_told(LOCKED, plan_node_drain(node), [-2])
        for node in range(6):
            self.check_told([create_network(6)], plan_node_drain(node), [0])
        self.check_told([create_network(6)], plan_node_drain(6), [-2])


if __name__ == "__main__":
    unittest.main()

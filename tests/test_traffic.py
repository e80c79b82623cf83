"""place_flow, stop_flow, move_flow, set_capacity, link_loads and assignment."""

import unittest

from tests.request import (
    HUGE, Refusals, add_flow, add_link, add_path, assignment, create_network, last_result, link_loads, move_flow,
    place_flow, results, set_capacity, stop_flow,
)


def triangle(direct, first, second, demand):
    """Links 0-2, 0-1 and 1-2, and flow 0 from 0 to 2 with a direct path and one over node 1."""
    return [
        create_network(3), add_link(0, 2, direct), add_link(0, 1, first), add_link(1, 2, second),
        add_flow(0, 2, demand), add_path(0, [0, 2]), add_path(0, [0, 1, 2]),
    ]


ROOMY = triangle(9, 9, 9, 4)
PLACED = ROOMY + [place_flow(0, 0)]
# Both flows fill the link that they use, so neither can go first.
LOCKED = [
    create_network(3), add_link(0, 1, 5), add_link(0, 2, 5), add_link(1, 2, 5),
    add_flow(0, 1, 5), add_path(0, [0, 1]), add_path(0, [0, 2, 1]),
    add_flow(0, 1, 5), add_path(1, [0, 1]), add_path(1, [0, 2, 1]),
    place_flow(0, 0), place_flow(1, 1),
]


class PlaceFlowTest(Refusals, unittest.TestCase):
    def test_answers_the_demand_and_loads_the_links(self):
        self.assertEqual(results(PLACED + [link_loads(), assignment()])[-3:], [[4], [3, 4, 9, 0, 9, 0, 9], [1, 1]])
        calls = ROOMY + [place_flow(0, 1), link_loads(), assignment()]
        self.assertEqual(results(calls)[-3:], [[4], [3, 0, 9, 4, 9, 4, 9], [1, 2]])

    def test_adds_to_the_load_that_is_there(self):
        calls = PLACED + [add_flow(2, 0, 5), add_path(1, [2, 0]), place_flow(1, 0), link_loads(), assignment()]
        self.assertEqual(results(calls)[-3:], [[5], [3, 9, 9, 0, 9, 0, 9], [2, 1, 1]])

    def test_may_fill_a_link(self):
        for demand in (1, 99):
            calls = triangle(demand, 0, 0, demand) + [place_flow(0, 0), link_loads()]
            self.assertEqual(results(calls)[-2:], [[demand], [3, demand, demand, 0, 0, 0, 0]])

    def test_places_a_flow_again_after_it_was_stopped(self):
        self.assertEqual(last_result(PLACED + [stop_flow(0), place_flow(0, 1)]), [4])

    def test_refuses_a_missing_flow_or_path(self):
        for flow, path in ((1, 0), (HUGE, 0), (0, 2), (0, 3), (0, HUGE), (1, 2)):
            self.check_refused(ROOMY, place_flow(flow, path), -2)
        self.check_refused(ROOMY + [add_flow(0, 1, 1)], place_flow(1, 0), -2)

    def test_refuses_an_active_flow(self):
        for path in (0, 1):
            self.check_refused(PLACED, place_flow(0, path), -17)

    def test_refuses_a_link_without_room(self):
        self.check_refused(triangle(3, 9, 9, 4), place_flow(0, 0), -33)
        self.check_refused(triangle(9, 3, 9, 4), place_flow(0, 1), -33)
        self.check_refused(triangle(9, 9, 3, 4), place_flow(0, 1), -33)
        self.check_refused(triangle(0, 9, 9, 1), place_flow(0, 0), -33)
        self.check_refused(triangle(98, 9, 9, 99), place_flow(0, 0), -33)

    def test_refuses_a_link_whose_room_another_flow_has(self):
        self.check_refused(PLACED + [add_flow(2, 0, 6), add_path(1, [2, 0])], place_flow(1, 0), -33)

    def test_the_capacity_as_set_last_counts(self):
        self.check_refused(ROOMY + [set_capacity(0, 3)], place_flow(0, 0), -33)
        self.assertEqual(last_result(triangle(3, 9, 9, 4) + [set_capacity(0, 4), place_flow(0, 0)]), [4])

    def test_a_missing_path_comes_before_an_active_flow(self):
        self.check_refused(PLACED, place_flow(0, 2), -2)

    def test_an_active_flow_comes_before_a_link_without_room(self):
        calls = triangle(4, 3, 3, 4) + [place_flow(0, 0)]
        for path in (0, 1):
            self.check_refused(calls, place_flow(0, path), -17)


class StopFlowTest(Refusals, unittest.TestCase):
    def test_answers_the_path_and_frees_the_links(self):
        for path in (0, 1):
            calls = ROOMY + [place_flow(0, path), stop_flow(0), link_loads(), assignment()]
            self.assertEqual(results(calls)[-3:], [[path], [3, 0, 9, 0, 9, 0, 9], [1, 0]])

    def test_leaves_other_flows(self):
        self.assertEqual(last_result(LOCKED + [stop_flow(0), assignment()]), [2, 0, 2])
        self.assertEqual(last_result(LOCKED + [stop_flow(1), assignment()]), [2, 1, 0])

    def test_refuses_a_missing_flow(self):
        for flow in (1, 5, HUGE):
            self.check_refused(PLACED, stop_flow(flow), -2)
        self.check_refused([create_network(2)], stop_flow(0), -2)

    def test_refuses_an_inactive_flow(self):
        self.check_refused(ROOMY, stop_flow(0), -6)
        self.check_refused(PLACED + [stop_flow(0)], stop_flow(0), -6)
        self.check_refused(ROOMY + [add_flow(0, 1, 1)], stop_flow(1), -6)


class MoveFlowTest(Refusals, unittest.TestCase):
    def test_answers_the_previous_path_and_moves_the_load(self):
        calls = PLACED + [move_flow(0, 1), link_loads(), assignment()]
        self.assertEqual(results(calls)[-3:], [[0], [3, 0, 9, 4, 9, 4, 9], [1, 2]])
        calls = ROOMY + [place_flow(0, 1), move_flow(0, 0), link_loads(), assignment()]
        self.assertEqual(results(calls)[-3:], [[1], [3, 4, 9, 0, 9, 0, 9], [1, 1]])

    def test_may_fill_a_link(self):
        calls = triangle(99, 99, 99, 99) + [place_flow(0, 0), move_flow(0, 1)]
        self.assertEqual(last_result(calls), [0])

    def test_can_be_moved_back(self):
        calls = triangle(4, 4, 4, 4) + [place_flow(0, 0), move_flow(0, 1), move_flow(0, 0), move_flow(0, 1)]
        self.assertEqual(results(calls)[-3:], [[0], [1], [0]])

    def test_leaves_other_flows(self):
        calls = PLACED + [add_flow(0, 2, 1), add_path(1, [0, 2]), place_flow(1, 0), move_flow(0, 1), assignment()]
        self.assertEqual(last_result(calls), [2, 2, 1])

    def test_asks_for_no_room_on_a_common_link(self):
        calls = [
            create_network(4), add_link(0, 1, 5), add_link(1, 2, 5), add_link(2, 3, 5), add_link(1, 3, 5),
            add_flow(0, 3, 5), add_path(0, [0, 1, 3]), add_path(0, [0, 1, 2, 3]),
            place_flow(0, 0), move_flow(0, 1), link_loads(),
        ]
        self.assertEqual(results(calls)[-2:], [[0], [4, 5, 5, 5, 5, 5, 5, 0, 5]])
        self.assertEqual(last_result(calls + [move_flow(0, 0)]), [1])
        self.check_refused(calls[:4] + [add_link(1, 3, 4)] + calls[5:8] + [place_flow(0, 1)], move_flow(0, 0), -33)

    def test_asks_for_no_room_on_a_link_crossed_the_other_way(self):
        calls = [
            create_network(4), add_link(0, 1, 5), add_link(0, 2, 5), add_link(1, 2, 5), add_link(1, 3, 5),
            add_link(2, 3, 5), add_flow(0, 3, 5), add_path(0, [0, 1, 2, 3]), add_path(0, [0, 2, 1, 3]),
            place_flow(0, 0), move_flow(0, 1), link_loads(),
        ]
        self.assertEqual(results(calls)[-2:], [[0], [5, 0, 5, 5, 5, 5, 5, 5, 5, 0, 5]])

    def test_refuses_a_missing_flow_or_path(self):
        for flow, path in ((1, 0), (HUGE, 0), (0, 2), (0, HUGE), (1, 2)):
            self.check_refused(PLACED, move_flow(flow, path), -2)

    def test_refuses_an_inactive_flow(self):
        for path in (0, 1):
            self.check_refused(ROOMY, move_flow(0, path), -6)
            self.check_refused(PLACED + [stop_flow(0)], move_flow(0, path), -6)

    def test_refuses_the_path_in_use(self):
        self.check_refused(PLACED, move_flow(0, 0), -17)
        self.check_refused(PLACED + [move_flow(0, 1)], move_flow(0, 1), -17)

    def test_a_flow_with_one_path_cannot_move(self):
        calls = [create_network(2), add_link(0, 1, 9), add_flow(0, 1, 4), add_path(0, [0, 1]), place_flow(0, 0)]
        self.check_refused(calls, move_flow(0, 0), -17)
        self.check_refused(calls, move_flow(0, 1), -2)

    def test_refuses_a_link_without_room(self):
        self.check_refused(triangle(9, 3, 9, 4) + [place_flow(0, 0)], move_flow(0, 1), -33)
        self.check_refused(triangle(9, 9, 3, 4) + [place_flow(0, 0)], move_flow(0, 1), -33)
        self.check_refused(triangle(9, 9, 0, 1) + [place_flow(0, 0)], move_flow(0, 1), -33)
        self.check_refused(triangle(3, 9, 9, 4) + [place_flow(0, 1)], move_flow(0, 0), -33)

    def test_refuses_a_link_whose_room_another_flow_has(self):
        calls = PLACED + [add_flow(0, 1, 6), add_path(1, [0, 1]), place_flow(1, 0)]
        self.check_refused(calls, move_flow(0, 1), -33)
        self.assertEqual(last_result(calls + [stop_flow(1), move_flow(0, 1)]), [0])

    def test_two_flows_without_room_cannot_exchange_their_paths(self):
        self.assertEqual(last_result(LOCKED + [assignment()]), [2, 1, 2])
        self.check_refused(LOCKED, move_flow(0, 1), -33)
        self.check_refused(LOCKED, move_flow(1, 0), -33)

    def test_two_flows_exchange_their_paths_once_there_is_room(self):
        calls = LOCKED + [set_capacity(0, 10), move_flow(1, 0), move_flow(0, 1), set_capacity(0, 5), assignment()]
        self.assertEqual(results(calls)[-5:], [[5], [1], [0], [10], [2, 2, 1]])

    def test_a_missing_path_comes_before_an_inactive_flow(self):
        self.check_refused(ROOMY, move_flow(0, 2), -2)

    def test_an_inactive_flow_comes_before_a_link_without_room(self):
        for path in (0, 1):
            self.check_refused(triangle(3, 3, 3, 4), move_flow(0, path), -6)

    def test_the_path_in_use_comes_before_a_link_without_room(self):
        self.check_refused(triangle(4, 0, 0, 4) + [place_flow(0, 0)], move_flow(0, 0), -17)


class SetCapacityTest(Refusals, unittest.TestCase):
    def test_answers_the_previous_capacity_and_sets_the_new_one(self):
        calls = triangle(9, 8, 7, 4) + [set_capacity(1, 99), set_capacity(1, 0), set_capacity(2, 50), link_loads()]
        self.assertEqual(results(calls)[-4:], [[8], [99], [7], [3, 0, 9, 0, 0, 0, 50]])

    def test_may_go_down_to_the_load(self):
        self.assertEqual(results(PLACED + [set_capacity(0, 4), link_loads()])[-2:], [[9], [3, 4, 4, 0, 9, 0, 9]])

    def test_may_stay_as_it_is(self):
        self.assertEqual(results(PLACED + [set_capacity(0, 9), link_loads()])[-2:], [[9], [3, 4, 9, 0, 9, 0, 9]])

    def test_makes_room_for_a_move(self):
        calls = triangle(9, 9, 3, 4) + [place_flow(0, 0), set_capacity(2, 4), move_flow(0, 1)]
        self.assertEqual(last_result(calls), [0])

    def test_refuses_a_missing_link(self):
        for link in (3, 9, 10, HUGE):
            self.check_refused(PLACED, set_capacity(link, 5), -2)
        self.check_refused([create_network(2)], set_capacity(0, 5), -2)

    def test_refuses_too_large_a_capacity(self):
        for capacity in (100, 101, HUGE):
            self.check_refused(PLACED, set_capacity(0, capacity), -22)

    def test_refuses_less_than_the_load(self):
        for capacity in (0, 3):
            self.check_refused(PLACED, set_capacity(0, capacity), -33)

    def test_a_stopped_flow_is_no_load(self):
        self.assertEqual(last_result(PLACED + [stop_flow(0), set_capacity(0, 0)]), [9])

    def test_a_missing_link_comes_before_too_large_a_capacity(self):
        for link in (3, HUGE):
            self.check_refused(PLACED, set_capacity(link, 100), -2)


class LinkLoadsTest(unittest.TestCase):
    def test_without_links(self):
        self.assertEqual(last_result([create_network(6), link_loads()]), [0])

    def test_sums_the_demands_of_the_active_flows(self):
        calls = triangle(99, 98, 97, 10) + [
            add_flow(1, 2, 20), add_path(1, [1, 2]), add_path(1, [1, 0, 2]), add_flow(1, 0, 30), add_path(2, [1, 0]),
            place_flow(0, 1), place_flow(1, 0), place_flow(2, 0),
        ]
        self.assertEqual(last_result(calls + [link_loads()]), [3, 0, 99, 40, 98, 30, 97])
        self.assertEqual(last_result(calls + [move_flow(1, 1), link_loads()]), [3, 20, 99, 60, 98, 10, 97])
        self.assertEqual(last_result(calls + [stop_flow(0), link_loads()]), [3, 0, 99, 30, 98, 20, 97])

    def test_only_inactive_flows_load_nothing(self):
        calls = ROOMY + [add_flow(0, 2, 9), add_path(1, [0, 2]), link_loads()]
        self.assertEqual(last_result(calls), [3, 0, 9, 0, 9, 0, 9])

    def test_tells_ten_links(self):
        pairs = [(a, b) for b in range(5) for a in range(b)]
        calls = [create_network(5)] + [add_link(a, b, 10 * a + b) for a, b in pairs] + [link_loads()]
        self.assertEqual(last_result(calls), [10] + [number for a, b in pairs for number in (0, 10 * a + b)])

    def test_leaves_the_state(self):
        self.assertEqual(results(PLACED + [link_loads()] * 3 + [assignment()])[-4:], [[3, 4, 9, 0, 9, 0, 9]] * 3 + [[1, 1]])


class AssignmentTest(unittest.TestCase):
    def test_without_flows(self):
        self.assertEqual(last_result([create_network(6), add_link(0, 1, 5), assignment()]), [0])

    def test_only_inactive_flows(self):
        self.assertEqual(last_result(ROOMY + [add_flow(0, 1, 1), add_flow(1, 0, 1), assignment()]), [3, 0, 0, 0])

    def test_tells_one_more_than_the_path(self):
        calls = [create_network(4)] + [add_link(a, b, 99) for b in range(4) for a in range(b)]
        for flow in range(5):
            calls += [add_flow(0, 1, 1), add_path(flow, [0, 1]), add_path(flow, [0, 2, 1]), add_path(flow, [0, 3, 1])]
        calls += [place_flow(4, 2), place_flow(2, 1), place_flow(1, 0), place_flow(3, 2), stop_flow(3)]
        self.assertEqual(last_result(calls + [assignment()]), [5, 0, 1, 2, 0, 3])

    def test_leaves_the_state(self):
        self.assertEqual(results(PLACED + [assignment()] * 3 + [link_loads()])[-4:], [[1, 1]] * 3 + [[3, 4, 9, 0, 9, 0, 9]])


if __name__ == "__main__":
    unittest.main()

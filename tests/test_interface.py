"""How flowmoves.planner.answers reads its one list and tells its answers."""

import contextlib
import io
import unittest

from flowmoves.planner import answers
from tests.request import (
    HUGE, add_flow, add_link, add_path, allowed_moves, assignment, component_count, create_network, drain_link,
    flow_paths, joined, last_result, link_loads, move_flow, place_flow, plan_link_drain, plan_node_drain, plan_to,
    reachable_count, results, set_capacity, stop_flow, stuck_flows, totals,
)

WITHOUT_NETWORK = [
    add_link(0, 1, 5), add_flow(0, 1, 5), add_path(0, [0, 1]), place_flow(0, 0), stop_flow(0), move_flow(0, 0),
    set_capacity(0, 5), link_loads(), assignment(), allowed_moves(), plan_to([]), plan_link_drain(0),
    plan_node_drain(0), drain_link(0), reachable_count(), component_count(), stuck_flows(0), flow_paths(0), totals(),
]
WRONG_WITHOUT_NETWORK = [
    add_link(HUGE, HUGE, HUGE), add_link(0, 0, 100), add_flow(HUGE, HUGE, 0), add_flow(0, 0, 100), add_path(HUGE, []),
    add_path(0, [HUGE] * 8), place_flow(HUGE, HUGE), stop_flow(HUGE), move_flow(HUGE, HUGE), set_capacity(HUGE, HUGE),
    plan_to([HUGE] * 8), plan_link_drain(HUGE), plan_node_drain(HUGE), drain_link(HUGE), stuck_flows(HUGE),
    flow_paths(HUGE),
]
BUSY = [
    create_network(3), add_link(0, 1, 10), add_link(1, 2, 10), add_link(0, 2, 5), add_flow(0, 2, 4),
    add_path(0, [0, 2]), add_path(0, []), add_path(0, [0, 1, 2]), place_flow(0, 0), link_loads(), assignment(),
    move_flow(0, 1), set_capacity(0, 3), set_capacity(0, 7), allowed_moves(), plan_to([1]), plan_to([]), plan_to([0]),
    plan_link_drain(0), plan_node_drain(1), reachable_count(), component_count(), stuck_flows(2), flow_paths(0),
    drain_link(0), drain_link(2), totals(), stop_flow(0), link_loads(), assignment(),
]


def largest():
    """Five flows with three paths each in a network with ten links, and room on each link for all flows."""
    calls = [create_network(5)] + [add_link(a, b, 99) for b in range(5) for a in range(b)]
    for flow in range(5):
        calls.append(add_flow(0, 1, 19))
        calls += [add_path(flow, nodes) for nodes in ([0, 1], [0, 2, 1], [0, 3, 4, 2, 1])]
        calls.append(place_flow(flow, 0))
    return calls


LARGEST = largest()


def refuse(*ignored, **also_ignored):
    raise AssertionError("the list that was handed in is changed")


class Untouchable(list):
    """A list that can't be changed, not for a while either."""

    append = clear = extend = insert = pop = remove = reverse = sort = refuse
    __setitem__ = __delitem__ = __iadd__ = __imul__ = refuse


class WithoutNetworkTest(unittest.TestCase):
    def test_every_other_call_is_refused_first(self):
        for call in WITHOUT_NETWORK + WRONG_WITHOUT_NETWORK:
            self.assertEqual(results([call]), [[-11]])

    def test_also_after_a_network_was_refused(self):
        for node_count in (0, 1, 7, HUGE):
            for call in WITHOUT_NETWORK + WRONG_WITHOUT_NETWORK:
                self.assertEqual(results([create_network(node_count), call]), [[-22], [-11]])

    def test_refused_calls_leave_nothing_behind(self):
        calls = WITHOUT_NETWORK + [create_network(2), link_loads(), assignment()]
        self.assertEqual(results(calls)[-3:], [[0], [0], [0]])

    def test_ends_with_the_first_network(self):
        calls = [link_loads(), create_network(1), link_loads(), create_network(2), link_loads(), assignment()]
        self.assertEqual(results(calls), [[-11], [-22], [-11], [0], [0], [0]])


class FormTest(unittest.TestCase):
    def test_the_numbers_of_a_request_and_of_its_answers(self):
        calls = [
            8, 0, 3, 1, 0, 1, 10, 1, 1, 2, 10, 1, 0, 2, 5, 2, 0, 2, 4, 3, 0, 2, 0, 2, 3, 0, 3, 0, 1, 2, 3, 0, 0, 4, 0, 0,
            8, 9, 6, 0, 1, 7, 0, 3, 7, 2, 6, 5, 0, 5, 0, 9,
        ]
        told = [
            1, -11, 1, 0, 1, 0, 1, 1, 1, 2, 1, 0, 1, 0, 1, 1, 1, -22, 1, 4,
            7, 3, 0, 10, 0, 10, 4, 5, 2, 1, 1, 1, 0, 1, -33, 1, 5, 1, 1, 1, -6, 2, 1, 0,
        ]
        self.assertEqual(answers(calls), told)

    def test_the_numbers_of_the_calls_from_10_to_19(self):
        calls = [
            0, 3, 1, 0, 1, 10, 1, 1, 2, 10, 1, 0, 2, 5, 2, 0, 2, 4, 3, 0, 2, 0, 2, 3, 0, 3, 0, 1, 2, 4, 0, 0,
            10, 11, 1, 2, 11, 0, 12, 2, 13, 1, 13, 0, 14, 2, 15, 16, 17, 0, 17, 9, 18, 0, 18, 1, 19, 9,
        ]
        told = [
            1, 0, 1, 0, 1, 1, 1, 2, 1, 0, 1, 0, 1, 1, 1, 4,
            3, 1, 0, 1, 3, 1, 0, 1, 1, -22, 3, 1, 0, 1, 1, 0, 1, -33, 3, 1, 0, 1, 2, 2, 2, 2, 1, 2, 1, 0, 1, -2,
            8, 2, 2, 0, 2, 3, 0, 1, 2, 1, -2, 4, 3, 3, 1, 4, 2, 1, 2,
        ]
        self.assertEqual(answers(calls), told)

    def test_the_example_of_the_document(self):
        calls = [
            create_network(3), add_link(0, 1, 10), add_link(1, 2, 10), add_link(0, 2, 5), add_flow(0, 2, 4),
            add_path(0, [0, 2]), add_path(0, [0, 1, 2]), place_flow(0, 0), allowed_moves(), drain_link(2),
            link_loads(), move_flow(0, 1), set_capacity(0, 3),
        ]
        told = [
            [0], [0], [1], [2], [0], [0], [1], [4], [1, 0, 1], [1, 0, 1], [3, 4, 10, 4, 10, 0, 5], [-17], [-33],
        ]
        self.assertEqual(results(calls), told)

    def test_answers_whole_numbers_in_a_list(self):
        told = answers(joined(BUSY))
        self.assertIs(type(told), list)
        self.assertEqual({type(number) for number in told}, {int})

    def test_prints_nothing(self):
        printed = io.StringIO()
        with contextlib.redirect_stdout(printed), contextlib.redirect_stderr(printed):
            answers(joined(BUSY))
        self.assertEqual(printed.getvalue(), "")

    def test_reads_on_behind_an_empty_and_a_full_row(self):
        calls = [create_network(2), add_path(0, []), add_path(HUGE, list(range(8))), add_link(1, 0, 99), link_loads()]
        self.assertEqual(results(calls), [[0], [-2], [-2], [0], [1, 0, 99]])

    def test_reads_on_behind_an_empty_and_a_full_target(self):
        calls = [create_network(2), plan_to([]), plan_to(range(8)), plan_to([HUGE] * 8), add_link(1, 0, 99), totals()]
        self.assertEqual(results(calls), [[0], [0], [-22], [-22], [0], [2, 1, 0, 0]])

    def test_a_row_may_look_like_calls(self):
        calls = [create_network(2), add_path(0, [0, 6, 8, 9, 0, 1, 8, 8]), add_flow(0, 1, 8), assignment()]
        self.assertEqual(results(calls), [[0], [-2], [0], [1, 0]])

    def test_the_largest_request(self):
        self.assertEqual(answers(joined([add_path(HUGE, [HUGE] * 8)] * 400)), [1, -11] * 400)
        calls = [create_network(6)] + [add_path(HUGE, [HUGE] * 8)] * 398 + [assignment()]
        self.assertEqual(results(calls), [[0]] + [[-2]] * 398 + [[0]])

    def test_the_largest_network_in_the_largest_requests(self):
        for call, told in (
            (allowed_moves(), [10] + [number for flow in range(5) for path in (1, 2) for number in (flow, path)]),
            (plan_to([3, 2, 3, 2, 3]), [5, 0, 2, 1, 1, 2, 2, 3, 1, 4, 2]),
            (plan_link_drain(0), [5, 0, 1, 1, 1, 2, 1, 3, 1, 4, 1]),
            (plan_node_drain(1), [-33]),
            (reachable_count(), [243, 243]),
            (component_count(), [1, 243]),
            (stuck_flows(0), [0]),
        ):
            calls = LARGEST + [call] * (400 - len(LARGEST))
            self.assertEqual(results(calls)[len(LARGEST):], [told] * (400 - len(LARGEST)))

    def test_the_largest_network_with_little_room(self):
        # At most three flows may use the link 0-1, and at most three the link 1-2, which is on both other paths:
        # with three on 0-1, 10 * 4 assignments, and with two, 10 * 8.
        calls = LARGEST + [stop_flow(3), stop_flow(4), place_flow(3, 1), place_flow(4, 2)]
        calls += [set_capacity(link, 57) for link in range(10)]
        told = {
            tuple(plan_to([2, 2, 1, 1, 3])): [3, 0, 1, 3, 0, 1, 1],
            tuple(plan_to([1, 1, 1, 1, 2])): [-35],
            tuple(plan_link_drain(0)): [-33],
            tuple(plan_link_drain(1)): [1, 3, 2],
            tuple(plan_link_drain(2)): [-33],
            tuple(plan_node_drain(4)): [1, 4, 1],
            tuple(reachable_count()): [120, 120],
            tuple(component_count()): [1, 120],
            tuple(stuck_flows(2)): [0],
        }
        asked = (list(told) * 400)[:400 - len(calls)]
        self.assertEqual(results(calls + asked)[len(calls):], [told[call] for call in asked])

    def test_the_smallest_requests(self):
        self.assertEqual(answers([8]), [1, -11])
        self.assertEqual(answers([9]), [1, -11])
        self.assertEqual(answers([11, 0]), [1, -11])
        self.assertEqual(answers([19]), [1, -11])
        self.assertEqual(answers([0, 2]), [1, 0])


class NothingKeptTest(unittest.TestCase):
    def test_what_is_handed_in_stays_as_it_is(self):
        for calls in (BUSY, WITHOUT_NETWORK, WRONG_WITHOUT_NETWORK):
            handed_in = Untouchable(joined(calls))
            self.assertEqual(answers(handed_in), answers(joined(calls)))
            self.assertEqual(list(handed_in), joined(calls))

    def test_each_request_begins_without_a_network(self):
        self.assertEqual(last_result([create_network(3), add_link(0, 1, 5), link_loads()]), [1, 0, 5])
        for call in WITHOUT_NETWORK:
            self.assertEqual(results([call]), [[-11]])

    def test_the_same_request_has_the_same_answers(self):
        first = answers(joined(BUSY))
        self.assertEqual(answers(joined(BUSY)), first)
        results([create_network(2), add_link(0, 1, 1), add_flow(0, 1, 1)])
        self.assertEqual(answers(joined(BUSY)), first)

    def test_answers_may_be_changed_by_who_asked(self):
        told = answers(joined(BUSY))
        kept = list(told)
        told.clear()
        self.assertEqual(answers(joined(BUSY)), kept)


if __name__ == "__main__":
    unittest.main()

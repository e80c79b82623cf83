"""What holds after whatever calls: no congestion, moves that can be taken back, refusals that change nothing."""

import random
import unittest

from tests.request import (
    Refusals, add_flow, add_link, add_path, assignment, create_network, last_result, link_loads, move_flow,
    place_flow, results, set_capacity, stop_flow,
)

LINKS = [(0, 1), (2, 1), (2, 3), (3, 0), (0, 2), (1, 3)]
PATHS = [
    [[0, 2], [0, 1, 2], [0, 3, 2]],
    [[1, 3], [1, 0, 3], [1, 2, 3]],
    [[2, 0, 1], [2, 1], [2, 3, 1]],
    [[3, 0], [3, 1, 0]],
    [[0, 1]],
]


def network(numbers):
    calls = [create_network(4)] + [add_link(a, b, numbers.randint(0, 12)) for a, b in LINKS]
    for flow, paths in enumerate(PATHS):
        calls.append(add_flow(paths[0][0], paths[0][-1], numbers.randint(1, 6)))
        calls += [add_path(flow, nodes) for nodes in paths]
    return calls


def any_call(numbers):
    flow, path, link = numbers.randint(0, 5), numbers.randint(0, 3), numbers.randint(0, 6)
    return numbers.choice([
        place_flow(flow, path), place_flow(flow, path), move_flow(flow, path), move_flow(flow, path), stop_flow(flow),
        set_capacity(link, numbers.choice([0, 3, 6, 9, 12, 100])), add_path(flow, []),
    ])


def links_of(nodes):
    return [{here, there} for here, there in zip(nodes, nodes[1:])]


def loads_of(told_assignment, demands, also):
    """The loads that the assignment makes, with one more (flow, path) on top where a moved flow holds both paths."""
    loads = []
    for link in LINKS:
        loads.append(0)
        for flow, choice in enumerate(told_assignment):
            held = [PATHS[flow][choice - 1]] if choice else []
            held += [PATHS[flow][path] for other, path in also if other == flow]
            if any(set(link) in links_of(nodes) for nodes in held):
                loads[-1] += demands[flow]
    return loads


class RequirementsTest(Refusals, unittest.TestCase):
    def walk(self, seed, check):
        numbers = random.Random(seed)
        calls = network(numbers)
        demands = [call[3] for call in calls if call[0] == 2]
        for step in range(40):
            call = any_call(numbers)
            told = results(calls + [assignment(), link_loads(), call, assignment(), link_loads()])[-5:]
            check(calls, call, told, demands)
            calls.append(call)

    def test_loads_are_those_of_the_assignment_and_never_exceed_the_capacities(self):
        def check(calls, call, told, demands):
            loads, capacities = told[4][1::2], told[4][2::2]
            self.assertEqual(loads, loads_of(told[3][1:], demands, []))
            self.assertTrue(all(load <= capacity for load, capacity in zip(loads, capacities)))

        for seed in range(12):
            self.walk(seed, check)

    def test_a_move_is_done_just_where_both_paths_have_room(self):
        moved = []

        def check(calls, call, told, demands):
            if call[0] != 6 or told[2][0] in (-2, -6, -17):
                return
            both = loads_of(told[0][1:], demands, [(call[1], call[2])])
            fits = all(load <= capacity for load, capacity in zip(both, told[1][2::2]))
            self.assertEqual(told[2][0] != -33, fits)
            moved.append(fits)

        for seed in range(12):
            self.walk(seed, check)
        self.assertEqual(set(moved), {True, False})

    def test_a_move_can_be_taken_back(self):
        def check(calls, call, told, demands):
            if call[0] == 6 and told[2][0] >= 0:
                back = [move_flow(call[1], told[2][0]), assignment(), link_loads()]
                self.assertEqual(results(calls + [call] + back)[-3:], [[call[2]], told[0], told[1]])

        for seed in range(12):
            self.walk(seed, check)

    def test_a_refusal_is_its_code_alone_and_changes_nothing(self):
        def check(calls, call, told, demands):
            if told[2][0] < 0:
                self.check_refused(calls, call, told[2][0])

        for seed in range(6):
            self.walk(seed, check)

    def test_questions_change_nothing(self):
        def check(calls, call, told, demands):
            asked = calls + [assignment(), link_loads(), call]
            self.assertEqual(last_result(asked), last_result(calls + [call]))

        for seed in range(6):
            self.walk(seed, check)


if __name__ == "__main__":
    unittest.main()

"""What holds after whatever calls: the numbered requirements of the document."""

import random
import unittest

from tests.request import (
    Questions, add_flow, add_link, add_path, allowed_moves, assignment, component_count, create_network, drain_link,
    flow_paths, last_result, link_loads, move_flow, place_flow, plan_link_drain, plan_node_drain, plan_to,
    reachable_count, results, set_capacity, stop_flow, stuck_flows, totals,
)
from tests.sample import Sample, told_plan

LINKS = [(0, 1), (2, 1), (2, 3), (3, 0), (0, 2), (1, 3)]
PATHS = [
    [[0, 2], [0, 1, 2], [0, 3, 2]],
    [[1, 3], [1, 0, 3], [1, 2, 3]],
    [[2, 0, 1], [2, 1], [2, 3, 1]],
    [[3, 0], [3, 1, 0]],
    [[0, 1]],
]


def network(numbers):
    calls = [create_network(4)] + [add_link(a, b, numbers.randint(0, 12)) for a, b in LINKS]
    for flow, paths in enumerate(PATHS):
        calls.append(add_flow(paths[0][0], paths[0][-1], numbers.randint(1, 6)))
        calls += [add_path(flow, nodes) for nodes in paths]
    return calls


def any_call(numbers):
    flow, path, link = numbers.randint(0, 5), numbers.randint(0, 3), numbers.randint(0, 6)
    return numbers.choice([
        place_flow(flow, path), place_flow(flow, path), move_flow(flow, path), move_flow(flow, path), stop_flow(flow),
        set_capacity(link, numbers.choice([0, 3, 6, 9, 12, 100])), add_path(flow, []), drain_link(link),
    ])


def any_question(numbers):
    flow, link, node = numbers.randint(0, 5), numbers.randint(0, 6), numbers.randint(0, 4)
    target = [numbers.randint(0, 3) for flow in range(numbers.choice([4, 5, 5, 5]))]
    return numbers.choice([
        link_loads(), assignment(), allowed_moves(), plan_to(target), plan_link_drain(link), plan_node_drain(node),
        reachable_count(), component_count(), stuck_flows(link), flow_paths(flow), totals(),
    ])


def links_of(nodes):
    return [{here, there} for here, there in zip(nodes, nodes[1:])]


def loads_of(told_assignment, demands, also):
    """The loads that the assignment makes, with one more (flow, path) on top where a moved flow holds both paths."""
    loads = []
    for link in LINKS:
        loads.append(0)
        for flow, choice in enumerate(told_assignment):
            held = [PATHS[flow][choice - 1]] if choice else []
            held += [PATHS[flow][path] for other, path in also if other == flow]
            if any(set(link) in links_of(nodes) for nodes in held):
                loads[-1] += demands[flow]
    return loads


class AnyCallsTest(Questions, unittest.TestCase):
    def walk(self, seed, check):
        numbers = random.Random(seed)
        calls = network(numbers)
        demands = [call[3] for call in calls if call[0] == 2]
        for step in range(40):
            call = any_call(numbers)
            told = results(calls + [assignment(), link_loads(), call, assignment(), link_loads()])[-5:]
            check(calls, call, told, demands)
            calls.append(call)

    def test_loads_are_those_of_the_assignment_and_never_exceed_the_capacities(self):
        def check(calls, call, told, demands):
            loads, capacities = told[4][1::2], told[4][2::2]
            self.assertEqual(loads, loads_of(told[3][1:], demands, []))
            self.assertTrue(all(load <= capacity for load, capacity in zip(loads, capacities)))

        for seed in range(12):
            self.walk(seed, check)

    def test_a_move_is_done_just_where_both_paths_have_room(self):
        moved = []

        def check(calls, call, told, demands):
            if call[0] != 6 or told[2][0] in (-2, -6, -17):
                return
            both = loads_of(told[0][1:], demands, [(call[1], call[2])])
            fits = all(load <= capacity for load, capacity in zip(both, told[1][2::2]))
            self.assertEqual(told[2][0] != -33, fits)
            moved.append(fits)

        for seed in range(12):
            self.walk(seed, check)
        self.assertEqual(set(moved), {True, False})

    def test_a_move_can_be_taken_back(self):
        def check(calls, call, told, demands):
            if call[0] == 6 and told[2][0] >= 0:
                back = [move_flow(call[1], told[2][0]), assignment(), link_loads()]
                self.assertEqual(results(calls + [call] + back)[-3:], [[call[2]], told[0], told[1]])

        for seed in range(12):
            self.walk(seed, check)

    def test_a_refusal_is_its_code_alone_and_changes_nothing(self):
        def check(calls, call, told, demands):
            if told[2][0] < 0:
                self.check_refused(calls, call, told[2][0])

        for seed in range(6):
            self.walk(seed, check)

    def test_questions_change_nothing(self):
        numbers = random.Random(1)

        def check(calls, call, told, demands):
            question = any_question(numbers)
            self.check_told(calls, question, last_result(calls + [question]))
            asked = calls + [any_question(numbers) for asked in range(5)] + [call]
            self.assertEqual(last_result(asked), last_result(calls + [call]))

        for seed in range(6):
            self.walk(seed, check)

    def test_the_moves_of_a_plan_are_allowed_one_after_another(self):
        """So point 1 holds on the way, too: each of them is checked by itself above."""
        numbers = random.Random(2)
        lengths = []

        def check(calls, call, told, demands):
            link, now = numbers.randint(0, 5), told[0]
            plan = last_result(calls + [plan_link_drain(link)])
            if plan[0] < 0:
                return
            moves = [move_flow(*plan[at:at + 2]) for at in range(1, len(plan), 2)]
            moved = results(calls + moves + [link_loads(), assignment()])[len(calls):]
            self.assertTrue(all(done[0] >= 0 for done in moved[:len(moves)]))
            self.assertEqual(moved[-2][1 + 2 * link], 0)
            drained = results(calls + [drain_link(link), link_loads(), assignment()])[len(calls):]
            self.assertEqual(drained, [plan] + moved[-2:])
            back = last_result(calls + [drain_link(link), plan_to(now[1:])])
            self.assertEqual(back[0], plan[0])
            lengths.append(len(moves))

        for seed in range(12):
            self.walk(seed, check)
        self.assertTrue({0, 1, 2} <= set(lengths))


class SampledTest(Questions, unittest.TestCase):
    """All that may be asked of a sampled network, beside what the document's words say of it."""

    samples = [Sample(seed, 8, 4, 5) for seed in range(25)]
    samples += [Sample(seed, 7, 5, 4) for seed in range(35)] + [Sample(seed, 10, 5, 3) for seed in range(3)]

    def check_all(self, sample, calls, told):
        self.assertEqual(results(sample.calls() + calls)[len(sample.calls()):], told)

    def test_allowed_moves(self):
        for sample in self.samples:
            moves = [move for move, behind in sample.moves(sample.current)]
            self.check_all(sample, [allowed_moves()], [told_plan(moves)])

    def test_moves_are_reversible(self):
        for sample in self.samples:
            for (flow, path), behind in sample.moves(sample.current):
                back = move_flow(flow, sample.current[flow] - 1)
                told = results(sample.calls() + [move_flow(flow, path), allowed_moves(), back, assignment()])[-3:]
                self.assertIn(tuple(back[1:]), list(zip(told[0][1::2], told[0][2::2])))
                self.assertEqual(told[1:], [[path], [len(behind)] + list(sample.current)])

    def test_plans_to_every_target(self):
        kinds = set()
        for sample in self.samples:
            targets = sample.all_targets()
            told = []
            for target in targets:
                plan = sample.shortest_plan([target])
                told.append(told_plan(plan) if target in sample.candidates else [-35])
                flows = [flow for flow, path in plan or []]
                kinds.add(told[-1][0])
                kinds.add("again" if len(flows) > len(set(flows)) else "once")
                if set(flows) - {flow for flow in flows if sample.current[flow] != target[flow]}:
                    kinds.add("away and back")
            for at in range(0, len(targets), 300):
                self.check_all(sample, [plan_to(target) for target in targets[at:at + 300]], told[at:at + 300])
        self.assertTrue({-35, -33, 0, 1, 2, 3, 4, 5, 6, "again", "once", "away and back"} <= kinds, kinds)

    def test_drains_of_every_link_and_node(self):
        counts = set()
        for sample in self.samples:
            links, nodes = range(len(sample.links)), range(sample.node_count)
            told = [told_plan(sample.shortest_plan(sample.unused([link]))) for link in links]
            self.check_all(sample, [plan_link_drain(link) for link in links], told)
            for link in links:
                self.check_all(sample, [drain_link(link)], [told[link]])
            counts |= {plan[0] for plan in told}
            told = [told_plan(sample.shortest_plan(sample.unused(sample.links_at(node)))) for node in nodes]
            self.check_all(sample, [plan_node_drain(node) for node in nodes], told)
            counts |= {plan[0] for plan in told}
        self.assertTrue({-33, 0, 1, 2, 3} <= counts, counts)

    def test_counts_of_assignments(self):
        kinds = set()
        for sample in self.samples:
            reachable, candidates = len(sample.reachable()), len(sample.candidates)
            components = sample.components()
            self.check_all(sample, [reachable_count(), component_count()],
                           [[reachable, candidates], [components, candidates]])
            kinds |= {("all", reachable == candidates), ("one", components == 1), ("more than two", components > 2)}
        self.assertEqual(len(kinds), 6)

    def test_stuck_flows(self):
        counts = set()
        for sample in self.samples:
            stuck = [sample.stuck(link) for link in range(len(sample.links))]
            told = [[len(flows)] + flows for flows in stuck]
            self.check_all(sample, [stuck_flows(link) for link in range(len(sample.links))], told)
            counts |= {len(flows) for flows in stuck}
        self.assertTrue({0, 1, 2} <= counts, counts)

    def test_with_ample_capacity_each_flow_moves_at_most_once(self):
        for sample in self.samples[:10]:
            ample = [set_capacity(link, sum(sample.demands)) for link in range(len(sample.links))]
            for target in sample.all_targets()[::3]:
                plan = last_result(sample.calls() + ample + [plan_to(target)])
                moves = [(flow, choice - 1) for flow, choice in enumerate(target) if choice != sample.current[flow]]
                self.assertEqual(plan, told_plan(moves))


if __name__ == "__main__":
    unittest.main()

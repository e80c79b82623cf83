"""Networks made from a seed, and what the document's words say of them, by another way than the program's.

A plan is found here from its end: first how many moves each assignment is away from the targets, by going over all
candidates until nothing changes; then, from the current assignment, the first move that comes one nearer.
"""

import itertools
import random

from tests.request import add_flow, add_link, add_path, create_network, place_flow


def simple_paths(links, nodes, destination):
    if nodes[-1] == destination:
        return [nodes]
    found = []
    for link in links:
        if nodes[-1] in link:
            there = link[0] if link[1] == nodes[-1] else link[1]
            if there not in nodes:
                found += simple_paths(links, nodes + [there], destination)
    return found


def links_on(links, nodes):
    steps = [{here, there} for here, there in zip(nodes, nodes[1:])]
    return {index for index, link in enumerate(links) if set(link) in steps}


class Sample:
    """A network with the flows of `current` placed, and so little room beside them as `slack` says."""

    def __init__(self, seed, link_count, flow_count, slack):
        numbers = random.Random(seed)
        self.node_count = numbers.randint(5, 6)
        pairs = [(a, b) for b in range(self.node_count) for a in range(b)]
        self.links = [numbers.choice([pair, pair[::-1]]) for pair in numbers.sample(pairs, link_count)]
        self.ends, self.demands, self.paths = [], [], []
        while len(self.paths) < flow_count:
            self.add_flow(numbers)
        # For each flow the links that it uses, inactive first, then on each of its paths.
        self.used = [[set()] + [links_on(self.links, nodes) for nodes in own] for own in self.paths]
        self.current = tuple(numbers.randint(0 if numbers.random() < 0.2 else 1, len(own)) for own in self.paths)
        self.capacities = [0] * link_count
        self.capacities = [load + numbers.randint(0, slack) for load in self.loads(self.current)]
        self.moves_of = {}
        self.candidates = [target for target in self.all_targets() if self.fits(self.loads(target))]

    def add_flow(self, numbers):
        source, destination = numbers.sample(range(self.node_count), 2)
        paths = simple_paths(self.links, [source], destination)
        if paths:
            self.ends.append((source, destination))
            self.demands.append(numbers.randint(1, 6))
            self.paths.append(numbers.sample(paths, min(len(paths), 3)))

    def calls(self):
        calls = [create_network(self.node_count)]
        calls += [add_link(a, b, capacity) for (a, b), capacity in zip(self.links, self.capacities)]
        for flow, (source, destination) in enumerate(self.ends):
            calls.append(add_flow(source, destination, self.demands[flow]))
            calls += [add_path(flow, nodes) for nodes in self.paths[flow]]
        return calls + [place_flow(flow, choice - 1) for flow, choice in enumerate(self.current) if choice]

    def loads(self, assignment, also=None):
        """The loads under the assignment, where `also` is a move on the way, with both of its paths held."""
        loads = [0] * len(self.links)
        for flow, choice in enumerate(assignment):
            held = self.used[flow][choice]
            if also and also[0] == flow:
                held = held | self.used[flow][also[1] + 1]
            for link in held:
                loads[link] += self.demands[flow]
        return loads

    def fits(self, loads):
        return all(load <= capacity for load, capacity in zip(loads, self.capacities))

    def moves(self, assignment):
        """The allowed moves, in order, each with the assignment behind it."""
        if assignment not in self.moves_of:
            found = []
            for flow, choice in enumerate(assignment):
                for path in range(len(self.paths[flow])):
                    if choice not in (0, path + 1) and self.fits(self.loads(assignment, (flow, path))):
                        behind = assignment[:flow] + (path + 1,) + assignment[flow + 1:]
                        found.append(((flow, path), behind))
            self.moves_of[assignment] = found
        return self.moves_of[assignment]

    def all_targets(self):
        """Every assignment with the same flows inactive, feasible or not."""
        return list(itertools.product(*[
            range(1, len(paths) + 1) if choice else (0,) for paths, choice in zip(self.paths, self.current)
        ]))

    def unused(self, links):
        """The candidates under which nothing uses the links."""
        return [one for one in self.candidates if not any(self.loads(one)[link] for link in links)]

    def links_at(self, node):
        return [index for index, link in enumerate(self.links) if node in link]

    def distances(self, targets):
        away = {target: 0 for target in targets}
        changed = True
        while changed:
            changed = False
            for one in self.candidates:
                steps = [away[behind] + 1 for move, behind in self.moves(one) if behind in away]
                if steps and min(steps) < away.get(one, len(self.candidates)):
                    away[one] = min(steps)
                    changed = True
        return away

    def shortest_plan(self, targets):
        """The moves of the shortest plan, or None."""
        away = self.distances(targets)
        here, plan = self.current, []
        if here not in away:
            return None
        while away[here]:
            move, here = [step for step in self.moves(here) if away.get(step[1]) == away[here] - 1][0]
            plan.append(move)
        return plan

    def reachable(self):
        """As moves are reversible, what leads to the current assignment is what it leads to."""
        return sorted(self.distances([self.current]))

    def components(self):
        left, count = self.candidates, 0
        while left:
            away = self.distances(left[:1])
            left = [one for one in left if one not in away]
            count += 1
        return count

    def stuck(self, link):
        reachable = self.reachable()
        return [
            flow for flow in range(len(self.paths)) if all(link in self.used[flow][one[flow]] for one in reachable)
        ]


def told_plan(plan):
    """What a call answers for the plan, or for None."""
    if plan is None:
        return [-33]
    return [len(plan)] + [number for move in plan for number in move]

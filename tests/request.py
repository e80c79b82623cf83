"""Writes requests call by call and reads their answers."""

from flowmoves.planner import answers

HUGE = 4294967295


def create_network(node_count):
    return [0, node_count]


def add_link(node_a, node_b, capacity):
    return [1, node_a, node_b, capacity]


def add_flow(source, destination, demand):
    return [2, source, destination, demand]


def add_path(flow, nodes):
    return [3, flow, len(nodes)] + nodes


def place_flow(flow, path):
    return [4, flow, path]


def stop_flow(flow):
    return [5, flow]


def move_flow(flow, path):
    return [6, flow, path]


def set_capacity(link, capacity):
    return [7, link, capacity]


def link_loads():
    return [8]


def assignment():
    return [9]


def allowed_moves():
    return [10]


def plan_to(target):
    return [11, len(target)] + list(target)


def plan_link_drain(link):
    return [12, link]


def plan_node_drain(node):
    return [13, node]


def drain_link(link):
    return [14, link]


def reachable_count():
    return [15]


def component_count():
    return [16]


def stuck_flows(link):
    return [17, link]


def flow_paths(flow):
    return [18, flow]


def totals():
    return [19]


def joined(calls):
    return [number for call in calls for number in call]


def results(calls):
    """The result of each call, as a list without its count."""
    told = answers(joined(calls))
    found = []
    position = 0
    while position < len(told):
        stop = position + 1 + told[position]
        if stop > len(told):
            raise AssertionError("the last result is shorter than its count")
        found.append(told[position + 1:stop])
        position = stop
    if len(found) != len(calls):
        raise AssertionError(f"{len(calls)} calls have {len(found)} results")
    return found


def last_result(calls):
    return results(calls)[-1]


def probe():
    """Calls whose answers show all of the state: loads, assignment, every path, the limits that are left."""
    calls = [link_loads(), assignment(), totals()] + [flow_paths(flow) for flow in range(5)]
    calls += [stop_flow(flow) for flow in range(5)]
    calls += [set_capacity(link, 99) for link in range(10)]
    for flow in range(5):
        for path in range(3):
            calls += [place_flow(flow, path), link_loads(), stop_flow(flow)]
    calls += [add_flow(node, (node + 1) % 6, 1) for node in range(6)]
    calls += [add_link(a, b, 1) for b in range(6) for a in range(b)]
    return calls


def with_probe(calls, call):
    """What the call answers behind the others, and what the probe answers with it and without it."""
    found = results(calls + [call] + probe())
    return found[len(calls)], found[len(calls) + 1:], results(calls + probe())[len(calls):]


class Refusals:
    """For a unittest.TestCase: a refused call answers its code alone and leaves the state as it was."""

    def check_refused(self, calls, call, code):
        refused, afterwards, otherwise = with_probe(calls, call)
        self.assertEqual(refused, [code])
        self.assertEqual(afterwards, otherwise)


class Questions(Refusals):
    """For a unittest.TestCase: a call that only tells leaves the state as it was, whatever it answers."""

    def check_told(self, calls, call, told):
        answered, afterwards, otherwise = with_probe(calls, call)
        self.assertEqual(answered, told)
        self.assertEqual(afterwards, otherwise)

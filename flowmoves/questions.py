"""The calls that only tell of a network. Each gives back the numbers that it answers."""

from flowmoves.codes import MISSING
from flowmoves.loads import loads_under
from flowmoves.moves import allowed_moves, tell_moves
from flowmoves.network import has_flow, has_link, uses_link
from flowmoves.search import candidate_assignments, count_components, current_assignment, plans_from


def tell_link_loads(network):
    told = [len(network.links)]
    for load, link in zip(loads_under(network, network.assignment), network.links):
        told.append(load)
        told.append(link.capacity)
    return told


def tell_assignment(network):
    return [len(network.flows)] + network.assignment


def tell_allowed_moves(network):
    return tell_moves(allowed_moves(network, network.assignment))


def tell_reachable_count(network):
    reached = plans_from(network, current_assignment(network))
    return [len(reached), len(candidate_assignments(network))]


def tell_component_count(network):
    candidates = candidate_assignments(network)
    return [count_components(network, candidates), len(candidates)]


def tell_stuck_flows(network, link):
    if not has_link(network, link):
        return [MISSING]
    reached = list(plans_from(network, current_assignment(network)))
    stuck = []
    for index, flow in enumerate(network.flows):
        if all([uses_link(flow, assignment[index], link) for assignment in reached]):
            stuck.append(index)
    return [len(stuck)] + stuck


def tell_flow_paths(network, flow):
    if not has_flow(network, flow):
        return [MISSING]
    paths = network.flows[flow].paths
    told = [len(paths)]
    for path in paths:
        told.append(len(path.nodes))
        told.extend(path.nodes)
    return told


def tell_totals(network):
    active_demand = 0
    for flow, choice in zip(network.flows, network.assignment):
        if choice > 0:
            active_demand += flow.demand
    return [network.node_count, len(network.links), len(network.flows), active_demand]

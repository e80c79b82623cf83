"""The calls that build a network and change its traffic. Each gives back the numbers that it answers."""

from flowmoves.codes import INACTIVE, INVALID, LIMIT_REACHED, MISSING, NO_ROOM, TAKEN
from flowmoves.limits import LEAST_DEMAND, MOST_CAPACITY, MOST_DEMAND, MOST_FLOWS, MOST_LINKS, MOST_PATHS
from flowmoves.loads import has_room, loads_under
from flowmoves.moves import allowed_moves
from flowmoves.network import Flow, Link, Path
from flowmoves.network import has_flow, has_link, has_node, has_path, is_path_of, link_between, links_along


def add_link(network, node_a, node_b, capacity):
    if not has_node(network, node_a) or not has_node(network, node_b):
        return [MISSING]
    if node_a == node_b or capacity > MOST_CAPACITY:
        return [INVALID]
    if link_between(network, node_a, node_b) is not None:
        return [TAKEN]
    if len(network.links) >= MOST_LINKS:
        return [LIMIT_REACHED]
    network.links.append(Link(node_a, node_b, capacity))
    return [len(network.links) - 1]


def add_flow(network, source, destination, demand):
    if not has_node(network, source) or not has_node(network, destination):
        return [MISSING]
    if source == destination or demand < LEAST_DEMAND or demand > MOST_DEMAND:
        return [INVALID]
    if len(network.flows) >= MOST_FLOWS:
        return [LIMIT_REACHED]
    network.flows.append(Flow(source, destination, demand))
    network.assignment.append(0)
    return [len(network.flows) - 1]


def add_path(network, flow, nodes):
    if not has_flow(network, flow):
        return [MISSING]
    owner = network.flows[flow]
    if not is_path_of(network, owner, nodes):
        return [INVALID]
    if nodes in [path.nodes for path in owner.paths]:
        return [TAKEN]
    if len(owner.paths) >= MOST_PATHS:
        return [LIMIT_REACHED]
    owner.paths.append(Path(nodes, links_along(network, nodes)))
    return [len(owner.paths) - 1]


def place_flow(network, flow, path):
    if not has_path(network, flow, path):
        return [MISSING]
    if network.assignment[flow] > 0:
        return [TAKEN]
    placed = network.flows[flow]
    loads = loads_under(network, network.assignment)
    if not has_room(network, loads, placed.paths[path].links, placed.demand):
        return [NO_ROOM]
    network.assignment[flow] = path + 1
    return [placed.demand]


def stop_flow(network, flow):
    if not has_flow(network, flow):
        return [MISSING]
    choice = network.assignment[flow]
    if choice == 0:
        return [INACTIVE]
    network.assignment[flow] = 0
    return [choice - 1]


def move_flow(network, flow, path):
    if not has_path(network, flow, path):
        return [MISSING]
    choice = network.assignment[flow]
    if choice == 0:
        return [INACTIVE]
    if choice == path + 1:
        return [TAKEN]
    if (flow, path) not in allowed_moves(network, network.assignment):
        return [NO_ROOM]
    network.assignment[flow] = path + 1
    return [choice - 1]


def set_capacity(network, link, capacity):
    if not has_link(network, link):
        return [MISSING]
    if capacity > MOST_CAPACITY:
        return [INVALID]
    if capacity < loads_under(network, network.assignment)[link]:
        return [NO_ROOM]
    previous = network.links[link].capacity
    network.links[link].capacity = capacity
    return [previous]

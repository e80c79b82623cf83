"""A network: its nodes, links and flows, and which path each flow uses."""


class Link:
    def __init__(self, node_a, node_b, capacity):
        self.node_a = node_a
        self.node_b = node_b
        self.capacity = capacity


class Path:
    # The links are kept as indices beside the nodes: a link is never removed, so an index stays right.
    def __init__(self, nodes, links):
        self.nodes = nodes
        self.links = links


class Flow:
    def __init__(self, source, destination, demand):
        self.source = source
        self.destination = destination
        self.demand = demand
        self.paths = []


class Network:
    def __init__(self, node_count):
        self.node_count = node_count
        self.links = []
        self.flows = []
        self.assignment = []


def has_node(network, node):
    return node < network.node_count


def has_link(network, link):
    return link < len(network.links)


def has_flow(network, flow):
    return flow < len(network.flows)


def has_path(network, flow, path):
    return has_flow(network, flow) and path < len(network.flows[flow].paths)


def link_between(network, node_a, node_b):
    for index, link in enumerate(network.links):
        if (node_a, node_b) in ((link.node_a, link.node_b), (link.node_b, link.node_a)):
            return index
    return None


def links_at(network, node):
    return [index for index, link in enumerate(network.links) if node in (link.node_a, link.node_b)]


def links_along(network, nodes):
    return [link_between(network, here, there) for here, there in zip(nodes, nodes[1:])]


def is_path_of(network, flow, nodes):
    if len(nodes) < 2 or len(set(nodes)) < len(nodes):
        return False
    if nodes[0] != flow.source or nodes[-1] != flow.destination:
        return False
    # A node that doesn't exist has no link, so it needs no check of its own.
    return None not in links_along(network, nodes)


def uses_link(flow, choice, link):
    return choice > 0 and link in flow.paths[choice - 1].links

"""The calls that only tell of a network. Each gives back the numbers that it answers."""

from flowmoves.loads import loads_under


def tell_link_loads(network):
    told = [len(network.links)]
    for load, link in zip(loads_under(network, network.assignment), network.links):
        told.append(load)
        told.append(link.capacity)
    return told


def tell_assignment(network):
    return [len(network.flows)] + network.assignment

"""The loads of the links, and the room that is left on them."""


def loads_under(network, assignment):
    loads = [0 for link in network.links]
    for flow, choice in zip(network.flows, assignment):
        if choice > 0:
            for link in flow.paths[choice - 1].links:
                loads[link] += flow.demand
    return loads


def is_feasible(network, assignment):
    for load, link in zip(loads_under(network, assignment), network.links):
        if load > link.capacity:
            return False
    return True


def has_room(network, loads, links, demand):
    for link in links:
        if loads[link] + demand > network.links[link].capacity:
            return False
    return True

"""The loads of the links, and the room that is left on them."""


def loads_under(network, assignment):
    loads = [0 for link in network.links]
    for flow, choice in zip(network.flows, assignment):
        if choice > 0:
            for link in flow.paths[choice - 1].links:
                loads[link] += flow.demand
    return loads


def has_room(network, assignment, links, demand):
    loads = loads_under(network, assignment)
    for link in links:
        if loads[link] + demand > network.links[link].capacity:
            return False
    return True


# A moved flow already has its room on the links that both paths use.
def links_entered(old_path, new_path):
    return [link for link in new_path.links if link not in old_path.links]

"""The moves of the flows. A move is a pair of a flow and the path that it is moved to."""

from flowmoves.loads import has_room, loads_under


# A moved flow already has its room on the links that both paths use.
def links_entered(old_path, new_path):
    return [link for link in new_path.links if link not in old_path.links]


def paths_to_enter(network, loads, flow, choice):
    if choice == 0:
        return []
    old_path = flow.paths[choice - 1]
    found = []
    for path, new_path in enumerate(flow.paths):
        if path != choice - 1 and has_room(network, loads, links_entered(old_path, new_path), flow.demand):
            found.append(path)
    return found


def allowed_moves(network, assignment):
    loads = loads_under(network, assignment)
    moves = []
    for index, flow in enumerate(network.flows):
        for path in paths_to_enter(network, loads, flow, assignment[index]):
            moves.append((index, path))
    return moves


def after_move(assignment, flow, path):
    return assignment[:flow] + (path + 1,) + assignment[flow + 1:]


def tell_moves(moves):
    told = [len(moves)]
    for move in moves:
        told.extend(move)
    return told

"""Searches the assignments that plans lead to. They are tuples here, so that a dict can hold them."""

from flowmoves.loads import is_feasible
from flowmoves.moves import after_move, allowed_moves


def current_assignment(network):
    return tuple(network.assignment)


def plans_from(network, start):
    """The shortest plan to each assignment that can be reached, the plans with fewer moves first."""
    plans = {start: []}
    found = [start]
    position = 0
    # First found is first in the order of moves, too: of plans of one length, the earlier ones are continued first.
    while position < len(found):
        here = found[position]
        position += 1
        for flow, path in allowed_moves(network, here):
            there = after_move(here, flow, path)
            if there not in plans:
                plans[there] = plans[here] + [(flow, path)]
                found.append(there)
    return plans


def choices_of(flow, choice):
    if choice == 0:
        return [0]
    return list(range(1, len(flow.paths) + 1))


def candidate_assignments(network):
    found = [()]
    for flow, current in zip(network.flows, network.assignment):
        longer = []
        for assignment in found:
            for choice in choices_of(flow, current):
                longer.append(assignment + (choice,))
        found = longer
    return [assignment for assignment in found if is_feasible(network, assignment)]


def count_components(network, candidates):
    seen = {}
    components = 0
    for candidate in candidates:
        if candidate not in seen:
            components += 1
            for reached in plans_from(network, candidate):
                seen[reached] = True
    return components

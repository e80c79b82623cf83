"""The calls that tell a plan, and the one that executes it. Each gives back the numbers that it answers."""

from flowmoves.codes import INFEASIBLE, INVALID, MISSING, NO_PLAN
from flowmoves.loads import is_feasible
from flowmoves.moves import tell_moves
from flowmoves.network import has_link, has_node, links_at, uses_link
from flowmoves.search import current_assignment, plans_from


def is_target_form(network, target):
    if len(target) != len(network.flows):
        return False
    for flow, current, wanted in zip(network.flows, network.assignment, target):
        if wanted > len(flow.paths) or (wanted == 0) != (current == 0):
            return False
    return True


def is_drained(network, assignment, links):
    for flow, choice in zip(network.flows, assignment):
        if any([uses_link(flow, choice, link) for link in links]):
            return False
    return True


def find_drain(network, links):
    # The plans come in their order, so the first that fits is the shortest plan.
    for assignment, plan in plans_from(network, current_assignment(network)).items():
        if is_drained(network, assignment, links):
            return plan
    return None


def tell_plan(plan):
    if plan is None:
        return [NO_PLAN]
    return tell_moves(plan)


def plan_to(network, target):
    if not is_target_form(network, target):
        return [INVALID]
    if not is_feasible(network, target):
        return [INFEASIBLE]
    return tell_plan(plans_from(network, current_assignment(network)).get(tuple(target)))


def plan_link_drain(network, link):
    if not has_link(network, link):
        return [MISSING]
    return tell_plan(find_drain(network, [link]))


def plan_node_drain(network, node):
    if not has_node(network, node):
        return [MISSING]
    return tell_plan(find_drain(network, links_at(network, node)))


def drain_link(network, link):
    if not has_link(network, link):
        return [MISSING]
    plan = find_drain(network, [link])
    if plan is not None:
        for flow, path in plan:
            network.assignment[flow] = path + 1
    return tell_plan(plan)

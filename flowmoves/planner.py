"""Answers the calls of a request, one after another on one instance."""

from flowmoves.changes import add_flow, add_link, add_path, move_flow, place_flow, set_capacity, stop_flow
from flowmoves.codes import INVALID, NO_NETWORK
from flowmoves.limits import LEAST_NODES, MOST_NODES
from flowmoves.network import Network
from flowmoves.plans import drain_link, plan_link_drain, plan_node_drain, plan_to
from flowmoves.questions import tell_allowed_moves, tell_assignment, tell_component_count, tell_flow_paths
from flowmoves.questions import tell_link_loads, tell_reachable_count, tell_stuck_flows, tell_totals
from flowmoves.reading import ADD_FLOW, ADD_LINK, ADD_PATH, ALLOWED_MOVES, ASSIGNMENT, COMPONENT_COUNT, CREATE_NETWORK
from flowmoves.reading import DRAIN_LINK, FLOW_PATHS, LINK_LOADS, MOVE_FLOW, PLACE_FLOW, PLAN_LINK_DRAIN
from flowmoves.reading import PLAN_NODE_DRAIN, PLAN_TO, REACHABLE_COUNT, SET_CAPACITY, STOP_FLOW, STUCK_FLOWS
from flowmoves.reading import read_calls


class Instance:
    def __init__(self):
        self.network = None


def create_network(instance, node_count):
    if node_count < LEAST_NODES or node_count > MOST_NODES:
        return [INVALID]
    instance.network = Network(node_count)
    return [0]


def answer_call(instance, call):
    if call.operation == CREATE_NETWORK:
        return create_network(instance, call.numbers[0])
    if instance.network is None:
        return [NO_NETWORK]
    if call.operation <= SET_CAPACITY:
        return answer_change(instance.network, call)
    if call.operation in (PLAN_TO, PLAN_LINK_DRAIN, PLAN_NODE_DRAIN, DRAIN_LINK):
        return answer_plan(instance.network, call)
    return answer_question(instance.network, call)


def answer_change(network, call):
    numbers = call.numbers
    if call.operation == ADD_LINK:
        return add_link(network, numbers[0], numbers[1], numbers[2])
    if call.operation == ADD_FLOW:
        return add_flow(network, numbers[0], numbers[1], numbers[2])
    if call.operation == ADD_PATH:
        return add_path(network, numbers[0], call.row)
    if call.operation == PLACE_FLOW:
        return place_flow(network, numbers[0], numbers[1])
    if call.operation == STOP_FLOW:
        return stop_flow(network, numbers[0])
    if call.operation == MOVE_FLOW:
        return move_flow(network, numbers[0], numbers[1])
    return set_capacity(network, numbers[0], numbers[1])


def answer_plan(network, call):
    if call.operation == PLAN_TO:
        return plan_to(network, call.row)
    if call.operation == PLAN_LINK_DRAIN:
        return plan_link_drain(network, call.numbers[0])
    if call.operation == PLAN_NODE_DRAIN:
        return plan_node_drain(network, call.numbers[0])
    return drain_link(network, call.numbers[0])


def answer_question(network, call):
    if call.operation == LINK_LOADS:
        return tell_link_loads(network)
    if call.operation == ASSIGNMENT:
        return tell_assignment(network)
    if call.operation == ALLOWED_MOVES:
        return tell_allowed_moves(network)
    if call.operation == REACHABLE_COUNT:
        return tell_reachable_count(network)
    if call.operation == COMPONENT_COUNT:
        return tell_component_count(network)
    if call.operation == STUCK_FLOWS:
        return tell_stuck_flows(network, call.numbers[0])
    if call.operation == FLOW_PATHS:
        return tell_flow_paths(network, call.numbers[0])
    return tell_totals(network)


def answers(calls):
    instance = Instance()
    told = []
    for call in read_calls(calls):
        answered = answer_call(instance, call)
        told.append(len(answered))
        told.extend(answered)
    return told

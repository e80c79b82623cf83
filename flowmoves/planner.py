"""Answers the calls of a request, one after another on one instance."""

from flowmoves.changes import add_flow, add_link, add_path, move_flow, place_flow, set_capacity, stop_flow
from flowmoves.codes import INVALID, NO_NETWORK
from flowmoves.limits import LEAST_NODES, MOST_NODES
from flowmoves.network import Network
from flowmoves.questions import tell_assignment, tell_link_loads
from flowmoves.reading import ADD_FLOW, ADD_LINK, ADD_PATH, CREATE_NETWORK, LINK_LOADS
from flowmoves.reading import MOVE_FLOW, PLACE_FLOW, STOP_FLOW, read_calls


class Instance:
    def __init__(self):
        self.network = None


def create_network(instance, node_count):
    if node_count < LEAST_NODES or node_count > MOST_NODES:
        return [INVALID]
    instance.network = Network(node_count)
    return [0]


def answer_call(instance, call):
    if call.operation == CREATE_NETWORK:
        return create_network(instance, call.numbers[0])
    if instance.network is None:
        return [NO_NETWORK]
    if call.operation < LINK_LOADS:
        return answer_change(instance.network, call)
    return answer_question(instance.network, call)


def answer_change(network, call):
    numbers = call.numbers
    if call.operation == ADD_LINK:
        return add_link(network, numbers[0], numbers[1], numbers[2])
    if call.operation == ADD_FLOW:
        return add_flow(network, numbers[0], numbers[1], numbers[2])
    if call.operation == ADD_PATH:
        return add_path(network, numbers[0], call.row)
    if call.operation == PLACE_FLOW:
        return place_flow(network, numbers[0], numbers[1])
    if call.operation == STOP_FLOW:
        return stop_flow(network, numbers[0])
    if call.operation == MOVE_FLOW:
        return move_flow(network, numbers[0], numbers[1])
    return set_capacity(network, numbers[0], numbers[1])


def answer_question(network, call):
    if call.operation == LINK_LOADS:
        return tell_link_loads(network)
    return tell_assignment(network)


def answers(calls):
    instance = Instance()
    told = []
    for call in read_calls(calls):
        answered = answer_call(instance, call)
        told.append(len(answered))
        told.extend(answered)
    return told

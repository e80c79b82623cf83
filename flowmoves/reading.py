"""Reads the calls out of the one list of whole numbers that holds them."""

CREATE_NETWORK = 0
ADD_LINK = 1
ADD_FLOW = 2
ADD_PATH = 3
PLACE_FLOW = 4
STOP_FLOW = 5
MOVE_FLOW = 6
SET_CAPACITY = 7
LINK_LOADS = 8
ASSIGNMENT = 9
ALLOWED_MOVES = 10
PLAN_TO = 11
PLAN_LINK_DRAIN = 12
PLAN_NODE_DRAIN = 13
DRAIN_LINK = 14
REACHABLE_COUNT = 15
COMPONENT_COUNT = 16
STUCK_FLOWS = 17
FLOW_PATHS = 18
TOTALS = 19

# How many whole numbers each call has, in the order of the calls above; a row's own count is not among them.
NUMBER_COUNTS = (1, 3, 3, 1, 2, 1, 2, 2, 0, 0, 0, 0, 1, 1, 1, 0, 0, 1, 1, 0)


class Call:
    def __init__(self, operation, numbers, row):
        self.operation = operation
        self.numbers = numbers
        self.row = row


def read_calls(calls):
    found = []
    position = 0
    while position < len(calls):
        operation = calls[position]
        start = position + 1
        position = start + NUMBER_COUNTS[operation]
        numbers = calls[start:position]
        row = []
        if operation in (ADD_PATH, PLAN_TO):
            start = position + 1
            position = start + calls[position]
            row = calls[start:position]
        found.append(Call(operation, numbers, row))
    return found

"""The error codes that a call answers in the place of its result."""

MISSING = -2
INACTIVE = -6
NO_NETWORK = -11
TAKEN = -17
INVALID = -22
LIMIT_REACHED = -28
NO_ROOM = -33
NO_PLAN = -33
INFEASIBLE = -35

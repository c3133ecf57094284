"""The error codes that a call is refused with."""

NO_REGISTRY = -11
NOT_THERE = -2
NO_ANNOUNCEMENT = -6
EXISTS = -17
BAD_ARGUMENT = -22
LIMIT_REACHED = -28
NO_DESTINATION = -33

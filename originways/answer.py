"""The one call from outside: a request goes in, its answers come back."""

from originways.operations import given_count, perform
from originways.registry import Registry

RESET = 0


def answers(calls):
    """Answer each call of the list, in order: how many numbers, then these numbers."""
    registry = None
    found = []
    place = 0
    while place < len(calls):
        number = calls[place]
        place += 1
        if number == RESET:
            registry = Registry([], [], 0)
            answered = [0]
        else:
            given = calls[place:place + given_count(number)]
            place += len(given)
            answered = perform(registry, number, given)
        found.append(len(answered))
        found.extend(answered)
    return found

"""Validity of prefixes, and tightening of ROAs."""

from originways.fields import ADDRESS, ANNOUNCER, LENGTH, MAX_LENGTH, ORIGIN
from originways.limits import LONGEST
from originways.prefixes import contains_prefix, is_prefix

NOT_FOUND = 0
VALID = 1
INVALID = 2


def is_roa(address, length, max_length):
    """Tell whether a ROA may have this prefix and this max_length."""
    return is_prefix(address, length) and length <= max_length <= LONGEST


def covers(roa, address, length):
    """Tell whether the ROA covers the prefix, whatever its origin and max_length."""
    return contains_prefix(roa[ADDRESS], roa[LENGTH], address, length)


def authorizes(roa, address, length, origin):
    """Tell whether the ROA makes the prefix valid with the origin."""
    return covers(roa, address, length) and roa[ORIGIN] == origin and length <= roa[MAX_LENGTH]


def validity_code(roas, address, length, origin):
    """Answer the validity of the prefix with the origin."""
    code = NOT_FOUND
    for roa in roas:
        if authorizes(roa, address, length, origin):
            return VALID
        if covers(roa, address, length):
            code = INVALID
    return code


def tightened_roas(roas, announcements, member):
    """Answer the ROAs as they are after tightening those of the member."""
    tightened = [roa for roa in roas if roa[ORIGIN] != member]
    for announcement in announcements:
        if announcement[ANNOUNCER] != member or announcement[ORIGIN] != member:
            continue
        address = announcement[ADDRESS]
        length = announcement[LENGTH]
        # Asked of the ROAs before the change: those of the member are
        # already gone from the new list.
        if validity_code(roas, address, length, member) == VALID:
            tightened.append((address, length, length, member))
    return tightened

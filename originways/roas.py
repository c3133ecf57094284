"""Validity of prefixes, and tightening of ROAs."""

from originways.fields import ADDRESS, ANNOUNCER, LENGTH, MAX_LENGTH, ORIGIN
from originways.limits import LONGEST
from originways.prefixes import all_prefixes, contains_prefix, is_prefix

NOT_FOUND = 0
VALID = 1
INVALID = 2


def is_roa(address, length, max_length):
    """Tell whether a ROA may have this prefix and this max_length."""
    return is_prefix(address, length) and length <= max_length <= LONGEST


def covering_roas(roas, address, length):
    """Answer the ROAs that cover the prefix, whatever their origins and max_lengths."""
    return [roa for roa in roas if contains_prefix(roa[ADDRESS], roa[LENGTH], address, length)]


def authorized_origins(covering, length):
    """Answer the origins that make a prefix of this length valid, from the ROAs that cover it."""
    return [roa[ORIGIN] for roa in covering if length <= roa[MAX_LENGTH]]


def validity_code(roas, address, length, origin):
    """Answer the validity of the prefix with the origin."""
    covering = covering_roas(roas, address, length)
    if not covering:
        return NOT_FOUND
    if origin in authorized_origins(covering, length):
        return VALID
    return INVALID


def valid_prefixes(roas, origin):
    """Answer the prefixes of all lengths that are valid with the origin."""
    found = []
    for prefix in all_prefixes():
        if validity_code(roas, prefix[ADDRESS], prefix[LENGTH], origin) == VALID:
            found.append(prefix)
    return found


def tightened_roas(roas, announcements, member):
    """Answer the ROAs as they are after tightening those of the member."""
    tightened = [roa for roa in roas if roa[ORIGIN] != member]
    for announcement in announcements:
        if announcement[ANNOUNCER] != member or announcement[ORIGIN] != member:
            continue
        address = announcement[ADDRESS]
        length = announcement[LENGTH]
        # Asked of the ROAs before the change: those of the member are
        # already gone from the new list.
        if validity_code(roas, address, length, member) == VALID:
            tightened.append((address, length, length, member))
    return tightened

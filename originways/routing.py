"""Which announcements are accepted, and where the traffic for an address goes."""

from originways.fields import ADDRESS, ANNOUNCER, LENGTH, ORIGIN
from originways.limits import ADDRESS_COUNT, MEMBER_COUNT
from originways.prefixes import contains_address
from originways.roas import authorized_origins, covering_roas


def accepted_origins(roas, strict, address, length):
    """Answer the origins that an announcement of the prefix is accepted with; strict is 1 or 0."""
    covering = covering_roas(roas, address, length)
    if not covering and strict == 0:
        return list(range(MEMBER_COUNT))
    return authorized_origins(covering, length)


def is_accepted(announcement, roas, strict):
    """Tell whether the announcement is accepted."""
    origins = accepted_origins(roas, strict, announcement[ADDRESS], announcement[LENGTH])
    return announcement[ORIGIN] in origins


def is_own(announcement):
    """Tell whether the announcer claims the prefix for itself."""
    return announcement[ANNOUNCER] == announcement[ORIGIN]


def is_preferred(one, other):
    """Tell whether one announcement of an address is preferred to another of it."""
    if one[LENGTH] != other[LENGTH]:
        return one[LENGTH] > other[LENGTH]
    if is_own(one) != is_own(other):
        return is_own(one)
    if one[ANNOUNCER] != other[ANNOUNCER]:
        return one[ANNOUNCER] < other[ANNOUNCER]
    return one[ORIGIN] < other[ORIGIN]


def replaces(one, selected):
    """Tell whether one announcement of an address is selected ahead of the selected one, or of None."""
    return selected is None or is_preferred(one, selected)


def selected_announcement(accepted, address):
    """Answer the most preferred accepted announcement of the address, or None."""
    selected = None
    for one in accepted:
        if contains_address(one[ADDRESS], one[LENGTH], address) and replaces(one, selected):
            selected = one
    return selected


def announcer_of(selected):
    """Answer the destination that a selected announcement makes, None where there is none."""
    if selected is None:
        return None
    return selected[ANNOUNCER]


def destinations_by(accepted):
    """Answer the destination of each address, None where it has none."""
    return [announcer_of(selected_announcement(accepted, address)) for address in range(ADDRESS_COUNT)]


def moved_addresses(before, after):
    """Answer the addresses at which two lists of destinations differ, in increasing order."""
    return [address for address in range(ADDRESS_COUNT) if before[address] != after[address]]

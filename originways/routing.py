"""Which announcements are accepted, and where the traffic for an address goes."""

from originways.fields import ADDRESS, ANNOUNCER, LENGTH, ORIGIN
from originways.limits import ADDRESS_COUNT
from originways.prefixes import contains_address
from originways.roas import NOT_FOUND, VALID, validity_code


def is_accepted(announcement, roas, strict):
    """Tell whether the announcement is accepted; strict is 1 or 0."""
    code = validity_code(roas, announcement[ADDRESS], announcement[LENGTH], announcement[ORIGIN])
    return code == VALID or (code == NOT_FOUND and strict == 0)


def accepted_announcements(roas, announcements, strict):
    """Answer the announcements that are not dropped, in their order."""
    return [one for one in announcements if is_accepted(one, roas, strict)]


def is_own(announcement):
    """Tell whether the announcer claims the prefix for itself."""
    return announcement[ANNOUNCER] == announcement[ORIGIN]


def is_preferred(one, other):
    """Tell whether one announcement of an address is preferred to another of it."""
    if one[LENGTH] != other[LENGTH]:
        return one[LENGTH] > other[LENGTH]
    if is_own(one) != is_own(other):
        return is_own(one)
    if one[ANNOUNCER] != other[ANNOUNCER]:
        return one[ANNOUNCER] < other[ANNOUNCER]
    return one[ORIGIN] < other[ORIGIN]


def selected_announcement(accepted, address):
    """Answer the most preferred accepted announcement of the address, or None."""
    selected = None
    for one in accepted:
        if not contains_address(one[ADDRESS], one[LENGTH], address):
            continue
        if selected is None or is_preferred(one, selected):
            selected = one
    return selected


def destination_of(accepted, address):
    """Answer the member that the traffic for the address goes to, or None."""
    selected = selected_announcement(accepted, address)
    if selected is None:
        return None
    return selected[ANNOUNCER]


def destinations(roas, announcements, strict):
    """Answer the destination of each address, None where it has none."""
    accepted = accepted_announcements(roas, announcements, strict)
    return [destination_of(accepted, address) for address in range(ADDRESS_COUNT)]


def moved_count(before, after):
    """Answer at how many addresses two lists of destinations differ."""
    count = 0
    for address in range(ADDRESS_COUNT):
        if before[address] != after[address]:
            count += 1
    return count

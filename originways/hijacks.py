"""Which members can hijack an address, and which addresses are vulnerable."""

from originways.fields import ADDRESS, LENGTH, ORIGIN
from originways.limits import ADDRESS_COUNT, LONGEST, MEMBER_COUNT
from originways.prefixes import prefix_start
from originways.routing import accepted_origins, announcer_of, replaces, selected_announcement


def possible_announcements(registry, address, shortest):
    """Answer the announcements of the address that would be accepted, from a length on.

    Their announcer is left open as None: it has no part in whether they are accepted.
    """
    found = []
    for length in range(shortest, LONGEST + 1):
        start = prefix_start(address, length)
        for origin in accepted_origins(registry.roas, registry.strict, start, length):
            found.append((start, length, None, origin))
    return found


def can_attract(member, possible, selected):
    """Tell whether one of the possible announcements, made by the member, would be selected."""
    for one in possible:
        made = (one[ADDRESS], one[LENGTH], member, one[ORIGIN])
        if replaces(made, selected):
            return True
    return False


def hijacking_members(registry, address, selected):
    """Answer the members that can hijack the address, by its selected announcement or None."""
    # A shorter prefix is never preferred to the selected one.
    shortest = 0 if selected is None else selected[LENGTH]
    possible = possible_announcements(registry, address, shortest)
    found = []
    for member in range(MEMBER_COUNT):
        if member != announcer_of(selected) and can_attract(member, possible, selected):
            found.append(member)
    return found


def vulnerable_of(registry, member):
    """Answer the vulnerable addresses of the member, in increasing order."""
    accepted = registry.accepted()
    found = []
    for address in range(ADDRESS_COUNT):
        selected = selected_announcement(accepted, address)
        if announcer_of(selected) == member and hijacking_members(registry, address, selected):
            found.append(address)
    return found

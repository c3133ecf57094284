"""The calls on a registry: each answers a list of whole numbers.

A refused call answers its error code alone. Each call checks all of its
errors before it changes anything, in the order that the document lists.
"""

from originways.fields import ADDRESS, ANNOUNCER, LENGTH, ORIGIN, all_fields
from originways.hijacks import hijacking_members, vulnerable_of
from originways.limits import ANNOUNCEMENT_LIMIT, ROA_LIMIT, is_member
from originways.prefixes import is_address, is_prefix
from originways.refusals import (
    BAD_ARGUMENT, EXISTS, LIMIT_REACHED, NO_ANNOUNCEMENT, NO_DESTINATION, NO_REGISTRY, NOT_THERE,
)
from originways.roas import is_roa, tightened_roas, valid_prefixes, validity_code
from originways.routing import selected_announcement


def add_roa(registry, address, length, max_length, origin):
    """Append a ROA; answer its index and the moved addresses' count."""
    if not is_member(origin):
        return [NOT_THERE]
    if not is_roa(address, length, max_length):
        return [BAD_ARGUMENT]
    roa = (address, length, max_length, origin)
    if roa in registry.roas:
        return [EXISTS]
    index = len(registry.roas)
    if index >= ROA_LIMIT:
        return [LIMIT_REACHED]
    moved = registry.change_to(registry.with_roas(registry.roas + [roa]))
    return [index, moved]


def remove_roa(registry, index):
    """Remove a ROA; answer the remaining ROAs' count and the moved addresses' count."""
    if index >= len(registry.roas):
        return [NOT_THERE]
    remaining = registry.roas[:index] + registry.roas[index + 1:]
    moved = registry.change_to(registry.with_roas(remaining))
    return [len(remaining), moved]


def announce(registry, address, length, announcer, origin):
    """Append an announcement; answer its validity and the moved addresses' count."""
    if not is_member(announcer) or not is_member(origin):
        return [NOT_THERE]
    if not is_prefix(address, length):
        return [BAD_ARGUMENT]
    announcement = (address, length, announcer, origin)
    if announcement in registry.announcements:
        return [EXISTS]
    if len(registry.announcements) >= ANNOUNCEMENT_LIMIT:
        return [LIMIT_REACHED]
    code = validity_code(registry.roas, address, length, origin)
    moved = registry.change_to(registry.with_announcements(registry.announcements + [announcement]))
    return [code, moved]


def withdraw(registry, address, length, announcer, origin):
    """Remove an announcement; answer the remaining ones' count and the moved addresses' count."""
    if not is_member(announcer) or not is_member(origin):
        return [NOT_THERE]
    announcement = (address, length, announcer, origin)
    if announcement not in registry.announcements:
        return [NO_ANNOUNCEMENT]
    remaining = [one for one in registry.announcements if one != announcement]
    moved = registry.change_to(registry.with_announcements(remaining))
    return [len(remaining), moved]


def set_strict(registry, strict):
    """Switch strict mode; answer how it was before and the moved addresses' count."""
    if strict > 1:
        return [BAD_ARGUMENT]
    previous = registry.strict
    moved = registry.change_to(registry.with_strict(strict))
    return [previous, moved]


def tighten_roas(registry, member):
    """Tighten the ROAs of the member; answer the ROAs' count and the moved addresses' count."""
    if not is_member(member):
        return [NOT_THERE]
    tightened = tightened_roas(registry.roas, registry.announcements, member)
    if len(tightened) > ROA_LIMIT:
        return [LIMIT_REACHED]
    moved = registry.change_to(registry.with_roas(tightened))
    return [len(tightened), moved]


def validity(registry, address, length, origin):
    """Answer the validity of the prefix with the origin."""
    if not is_member(origin):
        return [NOT_THERE]
    if not is_prefix(address, length):
        return [BAD_ARGUMENT]
    return [validity_code(registry.roas, address, length, origin)]


def destination(registry, address):
    """Answer announcer, origin and prefix of the selected announcement of the address."""
    if not is_address(address):
        return [BAD_ARGUMENT]
    selected = selected_announcement(registry.accepted(), address)
    if selected is None:
        return [NO_DESTINATION]
    return [selected[ANNOUNCER], selected[ORIGIN], selected[ADDRESS], selected[LENGTH]]


def address_count(registry, member):
    """Answer how many addresses go to the member, and how many have no destination."""
    if not is_member(member):
        return [NOT_THERE]
    found = registry.destinations()
    return [found.count(member), found.count(None)]


def hijackers(registry, address):
    """Answer the count of the members that can hijack the address, and these members."""
    if not is_address(address):
        return [BAD_ARGUMENT]
    selected = selected_announcement(registry.accepted(), address)
    members = hijacking_members(registry, address, selected)
    return [len(members)] + members


def vulnerable_addresses(registry, member):
    """Answer the count of the vulnerable addresses of the member, and these addresses."""
    if not is_member(member):
        return [NOT_THERE]
    vulnerable = vulnerable_of(registry, member)
    return [len(vulnerable)] + vulnerable


def preview_tighten(registry, member):
    """Answer how many addresses would be vulnerable, and how many would move, by tightening."""
    if not is_member(member):
        return [NOT_THERE]
    tightened = tightened_roas(registry.roas, registry.announcements, member)
    after = registry.with_roas(tightened)
    return [len(vulnerable_of(after, member)), len(registry.moved_by(after))]


def preview_announce(registry, address, length, announcer, origin):
    """Answer the count of the addresses that an announcement would move, and these addresses."""
    if not is_member(announcer) or not is_member(origin):
        return [NOT_THERE]
    if not is_prefix(address, length):
        return [BAD_ARGUMENT]
    # One that exists already stands twice then, which moves nothing: it is not preferred to itself.
    announcement = (address, length, announcer, origin)
    moved = registry.moved_by(registry.with_announcements(registry.announcements + [announcement]))
    return [len(moved)] + moved


def dropped_announcements(registry):
    """Answer the count of the dropped announcements, and the fields of each."""
    dropped = registry.dropped()
    return [len(dropped)] + all_fields(dropped)


def valid_prefix_count(registry, member):
    """Answer how many prefixes of all lengths are valid with the member as the origin."""
    if not is_member(member):
        return [NOT_THERE]
    return [len(valid_prefixes(registry.roas, member))]


def list_roas(registry):
    """Answer the count of the ROAs, and the fields of each."""
    return [len(registry.roas)] + all_fields(registry.roas)


def list_announcements(registry):
    """Answer the count of the announcements, strict mode, and the fields of each announcement."""
    return [len(registry.announcements), registry.strict] + all_fields(registry.announcements)


# By the number of a call: how many whole numbers it is given, and what answers it.
# The call reset is not here: it makes the registry that the others need.
OPERATIONS = {
    1: (4, add_roa),
    2: (1, remove_roa),
    3: (4, announce),
    4: (4, withdraw),
    5: (1, set_strict),
    6: (1, tighten_roas),
    7: (3, validity),
    8: (1, destination),
    9: (1, address_count),
    10: (1, hijackers),
    11: (1, vulnerable_addresses),
    12: (1, preview_tighten),
    13: (4, preview_announce),
    14: (0, dropped_announcements),
    15: (1, valid_prefix_count),
    16: (0, list_roas),
    17: (0, list_announcements),
}


def given_count(number):
    """Answer how many whole numbers the call of this number is given."""
    return OPERATIONS[number][0]


def perform(registry, number, given):
    """Answer the call of this number; the registry is None before the first reset."""
    if registry is None:
        return [NO_REGISTRY]
    operation = OPERATIONS[number][1]
    if len(given) == 0:
        return operation(registry)
    if len(given) == 1:
        return operation(registry, given[0])
    if len(given) == 3:
        return operation(registry, given[0], given[1], given[2])
    return operation(registry, given[0], given[1], given[2], given[3])

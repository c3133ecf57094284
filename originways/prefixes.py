"""Addresses and prefixes."""

from originways.limits import ADDRESS_COUNT, LONGEST

# How many addresses a prefix contains, by its length.
SIZES = (64, 32, 16, 8, 4, 2, 1)


def is_address(number):
    """Tell whether the number is an address."""
    return number < ADDRESS_COUNT


def is_prefix(address, length):
    """Tell whether (address, length) is a prefix."""
    if not is_address(address) or length > LONGEST:
        return False
    return address % SIZES[length] == 0


def prefix_start(address, length):
    """Answer the first address of the prefix of this length that contains the address."""
    return address - address % SIZES[length]


def all_prefixes():
    """Answer every prefix of every length, as pairs (address, length)."""
    found = []
    for length in range(LONGEST + 1):
        for address in range(0, ADDRESS_COUNT, SIZES[length]):
            found.append((address, length))
    return found


def contains_address(prefix_address, prefix_length, address):
    """Tell whether the prefix contains the address."""
    return prefix_address <= address < prefix_address + SIZES[prefix_length]


def contains_prefix(outer_address, outer_length, address, length):
    """Tell whether the outer prefix contains the prefix (address, length)."""
    # A prefix starts at a multiple of its size, so that one which is not
    # longer and contains the first address contains the others, too.
    return outer_length <= length and contains_address(outer_address, outer_length, address)

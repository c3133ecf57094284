"""The ranges and limits of a registry."""

ADDRESS_COUNT = 64
LONGEST = 6
MEMBER_COUNT = 8
ROA_LIMIT = 12
ANNOUNCEMENT_LIMIT = 16


def is_member(number):
    """Tell whether the number is the index of a member."""
    return number < MEMBER_COUNT

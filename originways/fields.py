"""Where the fields of ROAs and announcements stand.

A ROA is the tuple (address, length, max_length, origin), an announcement
is the tuple (address, length, announcer, origin).
"""

ADDRESS = 0
LENGTH = 1
MAX_LENGTH = 2
ANNOUNCER = 2
ORIGIN = 3


def all_fields(rows):
    """Answer the fields of ROAs or announcements, one behind another."""
    found = []
    for row in rows:
        found.extend(row)
    return found

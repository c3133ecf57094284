"""The state that the calls of one request work on."""

from originways.routing import accepted_announcements, destinations, moved_count


class Registry:
    """The ROAs, the announcements in their order, and strict mode as 1 or 0."""

    def __init__(self):
        self.roas = []
        self.announcements = []
        self.strict = 0

    def accepted(self):
        """Answer the announcements that are accepted now."""
        return accepted_announcements(self.roas, self.announcements, self.strict)

    def change(self, roas, announcements, strict):
        """Take over the new state and answer how many addresses moved."""
        before = destinations(self.roas, self.announcements, self.strict)
        after = destinations(roas, announcements, strict)
        self.roas = roas
        self.announcements = announcements
        self.strict = strict
        return moved_count(before, after)

    def change_roas(self, roas):
        """Replace the ROAs and answer how many addresses moved."""
        return self.change(roas, self.announcements, self.strict)

    def change_announcements(self, announcements):
        """Replace the announcements and answer how many addresses moved."""
        return self.change(self.roas, announcements, self.strict)

    def change_strict(self, strict):
        """Switch strict mode and answer how many addresses moved."""
        return self.change(self.roas, self.announcements, strict)

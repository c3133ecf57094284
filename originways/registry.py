"""The state that the calls of one request work on."""

from originways.routing import destinations_by, is_accepted, moved_addresses


class Registry:
    """The ROAs, the announcements in their order, and strict mode as 1 or 0.

    A list is replaced by another one, never changed itself: a preview has
    the lists of the registry that it is made from.
    """

    def __init__(self, roas, announcements, strict):
        self.roas = roas
        self.announcements = announcements
        self.strict = strict

    def accepted(self):
        """Answer the announcements that are accepted, in their order."""
        return [one for one in self.announcements if is_accepted(one, self.roas, self.strict)]

    def dropped(self):
        """Answer the announcements that are not accepted, in their order."""
        return [one for one in self.announcements if not is_accepted(one, self.roas, self.strict)]

    def destinations(self):
        """Answer the destination of each address, None where it has none."""
        return destinations_by(self.accepted())

    def with_roas(self, roas):
        """Answer another registry that differs in the ROAs alone."""
        return Registry(roas, self.announcements, self.strict)

    def with_announcements(self, announcements):
        """Answer another registry that differs in the announcements alone."""
        return Registry(self.roas, announcements, self.strict)

    def with_strict(self, strict):
        """Answer another registry that differs in strict mode alone."""
        return Registry(self.roas, self.announcements, strict)

    def moved_by(self, after):
        """Answer the addresses that move where this state becomes the other one."""
        return moved_addresses(self.destinations(), after.destinations())

    def change_to(self, after):
        """Take over the other state and answer how many addresses moved."""
        moved = self.moved_by(after)
        self.roas = after.roas
        self.announcements = after.announcements
        self.strict = after.strict
        return len(moved)

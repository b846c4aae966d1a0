"""Notices of zones, and bureaus that keep them (point 59)."""


class Bureau:
    """The greatest notice of each name that a bureau has heard."""

    def __init__(self):
        self._notices = {}

    def hear(self, notice):
        """True if a notice was taken: what is kept has changed."""
        name = notice[0]
        if name in self._notices and notice <= self._notices[name]:
            return False
        self._notices[name] = notice
        return True

    def kept(self):
        """The list of the notices that are kept, in ascending order of their names."""
        return [self._notices[name] for name in sorted(self._notices)]

    def zone(self, name):
        """The zone of a name, or None."""
        if name not in self._notices:
            return None
        return self._notices[name][2]

    def meet(self, other):
        """Hear all notices of another bureau, and let it hear all of this one; the number of those taken."""
        mine = self.kept()
        theirs = other.kept()
        taken = 0
        for notice in theirs:
            if self.hear(notice):
                taken = taken + 1
        for notice in mine:
            if other.hear(notice):
                taken = taken + 1
        return taken

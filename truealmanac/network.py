"""Networks of bureaus that send notices to each other (point 67)."""

from truealmanac.notices import Bureau

LOST = 1
STAYS = 2


class Network:
    """Bureaus with names, the links between them, and the queue of messages (to, notice)."""

    def __init__(self, names, links):
        self._bureaus = {name: Bureau() for name in names}
        self._links = [(first, second) for first, second in links]
        self._queue = []

    def tell(self, name, notice):
        """Tell a notice to a bureau; True if it was taken, and so sent to all neighbours."""
        if not self._bureaus[name].hear(notice):
            return False
        self._queue.extend([(neighbour, notice) for neighbour in self._neighbours(name)])
        return True

    def queue(self):
        """The list of the messages in the queue."""
        return list(self._queue)

    def deed(self, n):
        """What a number n does to one message of the queue, if there is any."""
        if len(self._queue) == 0:
            return
        at = n // 3 % len(self._queue)
        what = n % 3
        name, notice = self._queue[at]
        if what != STAYS:
            self._queue.pop(at)
        if what != LOST:
            self.tell(name, notice)

    def calm_round(self):
        """Empty the queue and let the bureaus of each link meet."""
        self._queue = []
        for first, second in self._links:
            self._bureaus[first].meet(self._bureaus[second])

    def bureau(self, name):
        """The bureau with a name."""
        return self._bureaus[name]

    def _neighbours(self, name):
        """The names of the neighbours of a bureau, each once, ascending."""
        found = {second: True for first, second in self._links if first == name}
        found.update({first: True for first, second in self._links if second == name})
        return sorted(found)

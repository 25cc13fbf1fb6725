"""The directory: knows where the ranges are, answers clients, and plans."""

from boundstone.errors import BadLetter
from boundstone.letters import check_letter
from boundstone.limits import DIRECTORY
from boundstone.planner import plan
from boundstone.routes import Routes

PLAN = 16


class Directory:
    """A directory for a group of servers, which returns the letters that it sends with their receivers."""

    def __init__(self, count):
        self._count = count
        self._routes = Routes()
        self._ticks = 0

    def tick(self):
        """Count a tick, and at every PLAN-th one return the orders of a plan."""
        self._ticks = self._ticks + 1
        if self._ticks < PLAN:
            return []
        self._ticks = 0
        return plan(self._routes.pieces(), self._count)

    def receive(self, sender, letter):
        """Take a letter, and return the letters that it leads to."""
        try:
            check_letter(self._count, sender, DIRECTORY, letter)
        except BadLetter:
            return []
        if letter[0] == "have":
            _, low, high, epoch, size, middle = letter
            self._routes.add((low, high, epoch, sender, size, middle))
            return []
        # No other kind than this one goes from anybody else to the directory.
        return self._tell(sender, letter[1])

    def pieces(self):
        """Return what is known of the ranges."""
        return self._routes.pieces()

    def _tell(self, client, place):
        piece = self._routes.find(place)
        if piece is None:
            return []
        low, high, report = piece
        return [(client, ("there", low, high, report[2], report[3]))]

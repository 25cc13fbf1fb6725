"""The greatest epochs of keys, kept for whole ranges."""

from boundstone.keys import overlap
from boundstone.spans import apart, filled, fused


class Epochs:
    """For each key a number, which only rises."""

    def __init__(self):
        self._rows = []

    def raise_to(self, low, high, epoch):
        """Set the number of each key of a range to an epoch, unless it is greater already."""
        # No number is less than 0, and no row stands for keys whose number is 0.
        if epoch > 0:
            inside, outside = apart(self._rows, low, high)
            spans = filled(inside, low, high, epoch)
            self._rows = fused(outside + [(start, end, max(number, epoch)) for start, end, number in spans])

    def greatest(self, low, high):
        """Return the greatest number of a key of a range."""
        return max([row[2] for row in self._rows if overlap(low, high, row[0], row[1])], default=0)

    def rows(self):
        """Return the ranges with their numbers, in ascending order."""
        return list(self._rows)

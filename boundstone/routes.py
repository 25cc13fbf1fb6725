"""What is known of where the ranges are."""

from boundstone.keys import contains
from boundstone.spans import apart, filled, fused


class Routes:
    """For each key the newest report about it, kept as pieces of ranges."""

    def __init__(self):
        self._pieces = []

    def add(self, report):
        """Add a report, which counts for the keys that no report with a greater epoch has."""
        low, high = report[0], report[1]
        inside, outside = apart(self._pieces, low, high)
        # A report takes the place of an equal one wherever that counts, so equal neighbours are of one call.
        self._pieces = fused(outside + [
            (start, end, _newer(old, report)) for start, end, old in filled(inside, low, high, report)
        ])

    def pieces(self):
        """Return the pieces in ascending order."""
        return list(self._pieces)

    def find(self, place):
        """Return the piece that has a place, or None."""
        for piece in self._pieces:
            if contains(piece[0], piece[1], place):
                return piece
        return None

    def drop(self, place):
        """Remove the piece that has a place."""
        self._pieces = [piece for piece in self._pieces if not contains(piece[0], piece[1], place)]


def _newer(old, report):
    """Return the one with the greater epoch of two reports, the later one of the same epoch."""
    return report if report[2] >= old[2] else old


def is_whole(piece):
    """Tell whether a piece has the whole range of its report."""
    low, high, report = piece
    return low == report[0] and high == report[1]

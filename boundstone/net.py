"""A network: the packets that are in flight."""

from boundstone.errors import BadSchedule
from boundstone.texts import is_integer


class Net:
    """Packets, each with a sender, a receiver and a letter, in the order in which they were sent."""

    def __init__(self):
        self._packets = []

    def send(self, sender, receiver, letter):
        """Append a packet."""
        self._packets.append((sender, receiver, letter))

    def take(self, position):
        """Take out a packet, and return it."""
        self._check(position)
        return self._packets.pop(position)

    def double(self, position):
        """Append a second copy of a packet."""
        self._check(position)
        self._packets.append(self._packets[position])

    def move(self, position):
        """Put a packet behind all others."""
        packet = self.take(position)
        self._packets.append(packet)

    def packets(self):
        """Return the packets."""
        return list(self._packets)

    def count(self):
        """Return the number of packets."""
        return len(self._packets)

    def _check(self, position):
        if not is_integer(position, 0, len(self._packets) - 1):
            raise BadSchedule(0, "position")

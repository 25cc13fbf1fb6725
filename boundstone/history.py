"""A history: what clients and servers did, in the order in which it happened."""

from boundstone.errors import BadSchedule
from boundstone.limits import MOST_NUMBER
from boundstone.operations import kind_of
from boundstone.texts import is_integer

# The number of items of each kind of event.
LENGTHS = {"call": 5, "accept": 5, "done": 4, "crash": 3}


class History:
    """Events in order, of which the calls and the accepts of each client fit together."""

    def __init__(self):
        self._events = []
        # A row for each client that called: the client, the number of its last call, and whether it is open.
        # Nothing is known of the names of clients, so they are compared and not used as keys.
        self._calls = []

    def add(self, event):
        """Append an event."""
        if not _is_event(event):
            raise BadSchedule(0, "event")
        if len(self._events) > 0 and event[1] < self._events[-1][1]:
            raise BadSchedule(0, "time")
        if event[0] == "call":
            self._begin(event[2], event[3])
        elif event[0] == "accept":
            self._end(event[2], event[3])
        self._events.append(event)

    def events(self):
        """Return the events."""
        return list(self._events)

    def _begin(self, client, number):
        last, waits = self._last_call(client)
        if waits or not is_integer(number, last + 1, last + 1):
            raise BadSchedule(0, "call")
        self._keep(client, number, True)

    def _end(self, client, number):
        last, waits = self._last_call(client)
        if not waits or not is_integer(number, last, last):
            raise BadSchedule(0, "accept")
        self._keep(client, number, False)

    def _last_call(self, client):
        """Return the number of the last call of a client, and whether it is open."""
        for other, number, waits in self._calls:
            if other == client:
                return number, waits
        return 0, False

    def _keep(self, client, number, waits):
        others = [row for row in self._calls if row[0] != client]
        self._calls = others + [(client, number, waits)]


def _is_event(value):
    kind = kind_of(value)
    if kind not in LENGTHS or len(value) != LENGTHS[kind]:
        return False
    return is_integer(value[1], 0, MOST_NUMBER)

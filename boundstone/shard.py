"""A shard: the items of one range, with the sessions of the clients that asked for them."""

from boundstone.errors import BadShard
from boundstone.keys import contains, is_key, is_range
from boundstone.letters import is_pairs, is_rows
from boundstone.limits import MOST_NUMBER
from boundstone.operations import apply, is_within
from boundstone.sessions import Sessions
from boundstone.texts import is_integer


class Shard:
    """The part of the table that belongs to one range, with the epoch of the range."""

    def __init__(self, low, high, epoch):
        if not is_range(low, high) or not is_integer(epoch, 1, MOST_NUMBER):
            raise BadShard("no range, or no epoch")
        self.low = low
        self.high = high
        self.epoch = epoch
        self._items = {}
        self._sessions = Sessions()

    def has(self, place):
        """Tell whether the range contains a bound."""
        return contains(self.low, self.high, place)

    def size(self):
        """Return the number of items."""
        return len(self._items)

    def middle(self):
        """Return the key in the middle of the items, or the empty string if there are less than two."""
        if self.size() < 2:
            return ""
        return sorted(self._items)[self.size() // 2]

    def status(self, client, number):
        """Tell whether a request is "new", done "again", or "stale"."""
        return self._sessions.status(client, number)

    def answer(self, client):
        """Return the answer to the last request of a client."""
        return self._sessions.answer(client)

    def serve(self, client, number, op):
        """Do a request unless it was done before, and return its status with the answer to it."""
        if not is_within(op, self.low, self.high):
            raise BadShard("the place is not in the range")
        status = self.status(client, number)
        if status == "stale":
            return (status,)
        if status == "new":
            self._sessions.remember(client, number, apply(self._items, op, self.high))
        return (status, self.answer(client))

    def split(self, at):
        """Return the two new shards below and from a key on."""
        if not is_key(at) or at <= self.low or not self.has(at):
            raise BadShard("the shard cannot be split there")
        left = {key: self._items[key] for key in self._items if key < at}
        right = {key: self._items[key] for key in self._items if key >= at}
        return (
            _filled(self.low, at, self.epoch + 1, left, self._sessions.clone()),
            _filled(at, self.high, self.epoch + 1, right, self._sessions.clone()),
        )

    def join(self, other):
        """Return the new shard of this one and its right neighbour."""
        if self.high != other.low:
            raise BadShard("the other one is not the right neighbour")
        epoch = max(self.epoch, other.epoch) + 1
        items = {**self._items, **other._items}
        return _filled(self.low, other.high, epoch, items, self._sessions.merged(other._sessions))

    def content(self):
        """Return the items and the sessions, both as tuples in ascending order."""
        pairs = tuple([(key, self._items[key]) for key in sorted(self._items)])
        return (pairs, self._sessions.rows())

    def clone(self):
        """Return an independent copy."""
        return _filled(self.low, self.high, self.epoch, dict(self._items), self._sessions.clone())


def _filled(low, high, epoch, items, sessions):
    """Return a new shard that takes over a dict of items and a table of sessions."""
    shard = Shard(low, high, epoch)
    shard._items = items
    shard._sessions = sessions
    return shard


def made(low, high, epoch, pairs, rows):
    """Return a new shard with this content."""
    shard = Shard(low, high, epoch)
    if not is_pairs(low, high, pairs) or not is_rows(rows):
        raise BadShard("not a content of a shard with this range")
    shard._items = {key: value for key, value in pairs}
    for client, number, answer in rows:
        shard._sessions.remember(client, number, answer)
    return shard

"""What the records of a server say: the shards that it holds, and the greatest epochs."""

from boundstone.epochs import Epochs
from boundstone.errors import BadRecord, BadShard
from boundstone.keys import overlap
from boundstone.operations import place
from boundstone.records import is_record
from boundstone.shard import made


class Holdings:
    """The shards that are held open or closed, and the greatest epochs, after a list of records."""

    def __init__(self, records):
        # Open shards do not overlap, so each of them has a low bound of its own.
        self._live = {}
        # From the range and the epoch of a closed shard to the shard and its target.
        self._closed = {}
        self._epochs = Epochs()
        for record in records:
            self.add(record)

    def fits(self, record):
        """Tell whether any value is a record that is valid after the records so far."""
        if not is_record(record):
            return False
        kind = record[0]
        if kind == "opened":
            return self._is_free(record[1], record[2], record[3])
        if kind == "gone":
            return record[1:4] in self._closed
        if kind == "join":
            _, low, middle, epoch, high, other = record
            return self._is_live(low, middle, epoch) and self._is_live(middle, high, other)
        if kind == "did":
            return self._can_do(record)
        return kind == "had" or self._is_live(record[1], record[2], record[3])

    def add(self, record):
        """Add a record."""
        if not self.fits(record):
            raise BadRecord("the record is not valid after the records before it")
        kind = record[0]
        if kind == "opened":
            _, low, high, epoch, items, sessions = record
            self._hold(made(low, high, epoch, items, sessions))
        elif kind == "closed":
            self._closed[record[1:4]] = (self._live.pop(record[1]), record[4])
        elif kind == "gone":
            del self._closed[record[1:4]]
        elif kind == "split":
            left, right = self._live[record[1]].split(record[4])
            self._hold(left)
            self._hold(right)
        elif kind == "join":
            self._hold(self._live[record[1]].join(self._live.pop(record[2])))
        elif kind == "did":
            _, low, _, client, number, op = record
            self._live[low].serve(client, number, op)
        else:
            self._epochs.raise_to(record[1], record[2], record[3])

    def shards(self):
        """Return the bounds, the epochs and the states of all held shards, in ascending order."""
        rows = [(shard.low, shard.high, shard.epoch, "open") for shard in self._live.values()]
        for shard, target in self._closed.values():
            rows.append((shard.low, shard.high, shard.epoch, target))
        return sorted(rows, key=lambda row: (row[0], row[2]))

    def find(self, spot):
        """Return the bounds and the epoch of the open shard that has a place, or None."""
        for shard in self._live.values():
            if shard.has(spot):
                return (shard.low, shard.high, shard.epoch)
        return None

    def status(self, low, client, number):
        """Return the status of a request in the open shard with this low bound."""
        return self._live[low].status(client, number)

    def answer(self, low, client):
        """Return the answer that the open shard with this low bound remembers for a client, or None."""
        try:
            return self._live[low].answer(client)
        except BadShard:
            return None

    def measure(self, low):
        """Return the number of items and the middle key of the open shard with this low bound."""
        shard = self._live[low]
        return (shard.size(), shard.middle())

    def content(self, low, high, epoch):
        """Return the content of the held shard with this range and epoch."""
        if self._is_live(low, high, epoch):
            return self._live[low].content()
        if (low, high, epoch) not in self._closed:
            raise BadRecord("no such shard is held")
        shard, _ = self._closed[(low, high, epoch)]
        return shard.content()

    def greatest(self, low, high):
        """Return the greatest epoch of a key of a range."""
        return self._epochs.greatest(low, high)

    def epochs(self):
        """Return the rows of the greatest epochs."""
        return self._epochs.rows()

    def summary(self):
        """Return the records that say the same, but of the shards as they are now."""
        records = []
        # In this order each shard that is opened has a greater epoch than those with the same keys before it.
        for low, high, epoch, state in sorted(self.shards(), key=lambda row: (row[2], row[0])):
            items, sessions = self.content(low, high, epoch)
            records.append(("opened", low, high, epoch, items, sessions))
            if state != "open":
                records.append(("closed", low, high, epoch, state))
        for low, high, epoch in self.epochs():
            records.append(("had", low, high, epoch))
        return records

    def _is_live(self, low, high, epoch):
        """Tell whether a shard with exactly this range and epoch is held open."""
        if low not in self._live:
            return False
        shard = self._live[low]
        return shard.high == high and shard.epoch == epoch

    def _is_free(self, low, high, epoch):
        """Tell whether a shard with this range and epoch may be opened."""
        if self.greatest(low, high) >= epoch:
            return False
        # A greater epoch does not open a key that is open already.
        return not any([overlap(low, high, shard.low, shard.high) for shard in self._live.values()])

    def _can_do(self, record):
        _, low, epoch, client, number, op = record
        if low not in self._live:
            return False
        shard = self._live[low]
        return shard.epoch == epoch and shard.has(place(op)) and shard.status(client, number) == "new"

    def _hold(self, shard):
        """Hold a shard open, in place of one with the same low bound."""
        self._live[shard.low] = shard
        self._epochs.raise_to(shard.low, shard.high, shard.epoch)

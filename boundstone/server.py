"""A server: holds shards, keeps them in a log on its disk, and answers letters."""

from boundstone.errors import BadLetter, BadServer
from boundstone.holdings import Holdings
from boundstone.letters import check_letter, is_server
from boundstone.limits import DIRECTORY, MOST_SERVERS
from boundstone.log import Log
from boundstone.operations import place
from boundstone.texts import is_integer

LOG_LIMIT = 64


class Server:
    """One server of a group, which returns the letters that it sends with their receivers."""

    def __init__(self, me, count, disk):
        if not is_integer(count, 1, MOST_SERVERS) or not is_server(count, me):
            raise BadServer("no number of servers, or no server of this group")
        self._me = me
        self._count = count
        self._log = Log(disk, "log")
        records = self._log.records()
        self._holdings = Holdings(records)
        if len(records) == 0 and me == 0:
            self._note(("opened", "", None, 1, (), ()))

    def tick(self):
        """Shorten a long log, tell where the open shards are, and send the closed ones."""
        if len(self._log.records()) > LOG_LIMIT:
            self._log.rewrite(self._holdings.summary())
        shards = self._holdings.shards()
        letters = []
        for low, high, epoch, state in shards:
            if state == "open":
                size, middle = self._holdings.measure(low)
                letters.append((DIRECTORY, ("have", low, high, epoch, size, middle)))
        for low, high, epoch, state in shards:
            if state != "open":
                letters.append(self._handover(low, high, epoch, state))
        return letters

    def receive(self, sender, letter):
        """Take a letter, and return the letters that it leads to."""
        if not self._takes(sender, letter):
            return []
        kind = letter[0]
        if kind == "ask":
            return self._answer(sender, letter)
        if kind == "move":
            return self._close(letter)
        if kind == "content":
            return self._take_over(sender, letter)
        if kind == "receipt":
            return self._let_go(sender, letter)
        return self._split_or_join(letter)

    def shards(self):
        """Return the bounds, the epochs and the states of all held shards, in ascending order."""
        return self._holdings.shards()

    def content(self, low, high, epoch):
        """Return the content of the held shard with this range and epoch."""
        return self._holdings.content(low, high, epoch)

    def records(self):
        """Return the records of the log."""
        return self._log.records()

    def _takes(self, sender, letter):
        """Tell whether a letter may come from a sender to this server."""
        try:
            check_letter(self._count, sender, self._me, letter)
        except BadLetter:
            return False
        return sender != self._me

    def _note(self, record):
        """Make a record durable before anything is told of it."""
        self._log.append(record)
        self._log.sync()
        self._holdings.add(record)

    def _handover(self, low, high, epoch, target):
        """Return the letter with the content of a closed shard, and its receiver."""
        items, sessions = self._holdings.content(low, high, epoch)
        return (target, ("content", low, high, epoch + 1, items, sessions))

    def _answer(self, client, letter):
        _, number, op = letter
        found = self._holdings.find(place(op))
        if found is None:
            return [(client, ("elsewhere", number))]
        low, _, epoch = found
        status = self._holdings.status(low, client, number)
        if status == "stale":
            return []
        if status == "new":
            self._note(("did", low, epoch, client, number, op))
        return [(client, ("answer", number, self._holdings.answer(low, client)))]

    def _close(self, letter):
        _, low, high, epoch, target = letter
        record = ("closed", low, high, epoch, target)
        if target == self._me or not self._holdings.fits(record):
            return []
        self._note(record)
        return [self._handover(low, high, epoch, target)]

    def _split_or_join(self, letter):
        # The record has the form of the letter.
        if self._holdings.fits(letter):
            self._note(letter)
        return []

    def _take_over(self, sender, letter):
        _, low, high, epoch, items, sessions = letter
        receipt = (sender, ("receipt", low, high, epoch))
        # The shard was opened here before, or never can be: in both cases the sender may let it go.
        if self._holdings.greatest(low, high) >= epoch:
            return [receipt]
        record = ("opened", low, high, epoch, items, sessions)
        if not self._holdings.fits(record):
            return []
        self._note(record)
        return [receipt]

    def _let_go(self, sender, letter):
        _, low, high, epoch = letter
        # The content was sent with the epoch after that of the closed shard.
        if (low, high, epoch - 1, sender) in self._holdings.shards():
            self._note(("gone", low, high, epoch - 1))
        return []

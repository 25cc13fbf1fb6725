"""A world: servers with their disks, a directory, clients and a network, which run step by step."""

from boundstone.acts import check_act
from boundstone.client import Client
from boundstone.directory import Directory
from boundstone.errors import BadLetter, BadRecord, BadSchedule, DiskCrashed
from boundstone.files import Disk
from boundstone.history import History
from boundstone.letters import check_letter, is_server
from boundstone.limits import DIRECTORY, MOST_CLIENTS, MOST_SERVERS
from boundstone.net import Net
from boundstone.operations import is_operation
from boundstone.server import Server
from boundstone.texts import is_integer


class World:
    """All that takes part in a run, and the history of the run."""

    def __init__(self, servers, clients):
        if not is_integer(servers, 1, MOST_SERVERS):
            raise BadSchedule(0, "servers")
        if not is_integer(clients, 0, MOST_CLIENTS):
            raise BadSchedule(0, "clients")
        self._time = 0
        self._net = Net()
        self._history = History()
        self._directory = Directory(servers)
        # In the order of their names -1, -2 and so on.
        self._clients = [Client(-1 - at, servers) for at in range(clients)]
        self._disks = [Disk() for _ in range(servers)]
        # None stands for a server that is down.
        self._servers = [None for _ in range(servers)]
        # How many records of the log of each server have been looked at for the history.
        self._seen = [0 for _ in range(servers)]
        for me in range(servers):
            self._start(me)

    def act(self, step):
        """Perform an act."""
        check_act(step)
        kind = step[0]
        if kind == "submit":
            self._submit(step[1], step[2])
        elif kind == "order":
            self._order(step[1], step[2])
        elif kind in ("arm", "crash", "restart"):
            self._trouble(step)
        elif kind in ("tick", "calm"):
            for _ in range(step[1]):
                self._tick()
                if kind == "calm":
                    self._round()
        elif kind == "round":
            self._round()
        elif kind == "deliver":
            self._deliver(step[1])
        elif kind == "lose":
            self._net.take(step[1])
        elif kind == "double":
            self._net.double(step[1])
        else:
            self._net.move(step[1])

    def time(self):
        """Return the time."""
        return self._time

    def packets(self):
        """Return the packets in flight."""
        return self._net.packets()

    def is_up(self, server):
        """Tell whether a server is up."""
        self._check_server(server)
        return self._servers[server] is not None

    def shards(self, server):
        """Return the shards that a server holds, none if it is down."""
        return self._servers[server].shards() if self.is_up(server) else []

    def content(self, server, low, high, epoch):
        """Return the content of a shard that a server holds."""
        if not self.is_up(server):
            raise BadRecord("the server is down")
        return self._servers[server].content(low, high, epoch)

    def holdings(self):
        """Return the shards that all servers hold, with their items."""
        rows = []
        for me in range(len(self._servers)):
            for low, high, epoch, state in self.shards(me):
                pairs, _ = self.content(me, low, high, epoch)
                rows.append((me, low, high, epoch, state, pairs))
        return rows

    def client(self, name):
        """Return the client with this name."""
        if not self._has_client(name):
            raise BadSchedule(0, "client")
        return self._clients[-1 - name]

    def pieces(self):
        """Return what the directory knows of the ranges."""
        return self._directory.pieces()

    def history(self):
        """Return a new history with the events so far."""
        history = History()
        for event in self._history.events():
            history.add(event)
        return history

    def _check_server(self, server):
        if not is_server(len(self._servers), server):
            raise BadSchedule(0, "server")

    def _has_client(self, name):
        return is_integer(name, -len(self._clients), -1)

    def _send(self, sender, letters):
        for receiver, letter in letters:
            self._net.send(sender, receiver, letter)

    def _submit(self, name, op):
        client = self.client(name)
        if not is_operation(op):
            raise BadSchedule(0, "operation")
        before = client.pending()
        self._send(name, client.submit(op))
        self._tell_of_client(name, before)

    def _order(self, server, letter):
        self._check_server(server)
        try:
            check_letter(len(self._servers), DIRECTORY, server, letter)
        except BadLetter:
            raise BadSchedule(0, "letter") from None
        self._net.send(DIRECTORY, server, letter)

    def _trouble(self, step):
        """Arm the disk of a server, or let the server go down or come up."""
        kind, me = step[0], step[1]
        if self.is_up(me) == (kind == "restart"):
            raise BadSchedule(0, "state")
        if kind == "arm":
            self._disks[me].arm(step[2])
        elif kind == "crash":
            self._go_down(me)
        else:
            disk = self._disks[me]
            disk.crash([step[2] for _ in disk.names()])
            self._start(me)

    def _start(self, me):
        """Create a server on its disk."""
        try:
            server = Server(me, len(self._servers), self._disks[me])
        except DiskCrashed:
            self._go_down(me)
            return
        self._servers[me] = server
        self._tell_of_log(me)

    def _go_down(self, me):
        self._servers[me] = None
        self._history.add(("crash", self._time, me))

    def _tick(self):
        self._time = self._time + 1
        for me in range(len(self._servers)):
            if self.is_up(me):
                self._tick_server(me)
        self._send(DIRECTORY, self._directory.tick())
        for at, client in enumerate(self._clients):
            self._send(-1 - at, client.tick())

    def _round(self):
        for _ in range(self._net.count()):
            self._deliver(0)

    def _deliver(self, position):
        sender, receiver, letter = self._net.take(position)
        if receiver == DIRECTORY:
            self._send(DIRECTORY, self._directory.receive(sender, letter))
        elif is_server(len(self._servers), receiver):
            if self.is_up(receiver):
                self._deliver_to_server(sender, receiver, letter)
        elif self._has_client(receiver):
            client = self.client(receiver)
            before = client.pending()
            self._send(receiver, client.receive(sender, letter))
            self._tell_of_client(receiver, before)

    def _tick_server(self, me):
        try:
            letters = self._servers[me].tick()
        except DiskCrashed:
            self._go_down(me)
            return
        self._send(me, letters)
        self._tell_of_log(me)

    def _deliver_to_server(self, sender, me, letter):
        try:
            letters = self._servers[me].receive(sender, letter)
        except DiskCrashed:
            self._go_down(me)
            return
        self._send(me, letters)
        self._tell_of_log(me)

    def _tell_of_log(self, me):
        """Add the requests to the history that are new in the log of a server."""
        records = self._servers[me].records()
        # A log that was rewritten is another one, but a summary has no requests.
        for record in records[self._seen[me]:]:
            if record[0] == "did":
                self._history.add(("done", self._time, me, record))
        self._seen[me] = len(records)

    def _tell_of_client(self, name, before):
        """Add to the history what became of the request that was pending before a call."""
        client = self.client(name)
        after = client.pending()
        if after == before:
            return
        if before is not None:
            number, _, answer = client.accepted()[-1]
            self._history.add(("accept", self._time, name, number, answer))
        if after is not None:
            number, op = after
            self._history.add(("call", self._time, name, number, op))

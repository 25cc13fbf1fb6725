"""Servers that several tests let work together."""

import unittest

from boundstone.client import Client
from boundstone.directory import Directory
from boundstone.errors import DiskCrashed
from boundstone.files import Disk
from boundstone.keys import contains, overlap
from boundstone.limits import DIRECTORY
from boundstone.operations import apply
from boundstone.server import LOG_LIMIT, Server

KEYS = "bcdfgklmpt"


class Group:
    """Servers with their disks, the letters between them, and what the requests that were done leave."""

    def __init__(self, count):
        self.disks = [Disk() for _ in range(count)]
        self.servers = [Server(me, count, disk) for me, disk in enumerate(self.disks)]
        self.packets = []
        self.table = {}
        # From a client and a number to the server, the operation, its answer, and the table as it was then.
        self.done = {}
        self.accepted = []
        self.crashes = 0
        self.rewritten = 0

    def up(self):
        return [me for me, server in enumerate(self.servers) if server is not None]

    def call(self, me, function):
        """Call a function of a server that is up, and send its letters unless it crashes."""
        try:
            letters = function(self.servers[me])
        except DiskCrashed:
            self.servers[me] = None
            self.crashes += 1
            return
        self.look(me)
        self.packets.extend((me, receiver, letter) for receiver, letter in letters)

    def tick(self, me):
        self.rewritten += len(self.servers[me].records()) > LOG_LIMIT
        self.call(me, lambda server: server.tick())

    def restart(self, me, keep):
        self.disks[me].crash([keep, keep])
        self.servers[me] = Server(me, len(self.servers), self.disks[me])
        self.look(me)

    def look(self, me):
        """Do the requests that are new in the log of a server on the table."""
        for record in self.servers[me].records():
            if record[0] == "did":
                _, _, _, client, number, op = record
                if (client, number) not in self.done:
                    before = dict(self.table)
                    self.done[client, number] = (me, op, apply(self.table, op, None), before)
                elif self.done[client, number][:2] != (me, op):
                    raise AssertionError("done twice")

    def deliver(self, at):
        sender, receiver, letter = self.packets.pop(at)
        if receiver in self.up():
            self.call(receiver, lambda server: server.receive(sender, letter))
        elif receiver < 0 and letter[0] == "answer":
            self.accepted.append((receiver, letter[1], letter[2]))

    def round(self):
        for _ in range(len(self.packets)):
            self.deliver(0)

    def shards(self):
        return [(me,) + shard for me in self.up() for shard in self.servers[me].shards()]

    def newest(self, place):
        found = [shard for shard in self.shards() if contains(shard[1], shard[2], place)]
        top = max([shard[3] for shard in found], default=0)
        return [shard for shard in found if shard[3] == top]


class GroupTest(unittest.TestCase):
    def check_homes(self, group):
        """At most one server has a key open."""
        shards = [shard for shard in group.shards() if shard[4] == "open"]
        for at, (_, low, high, _, _) in enumerate(shards):
            for _, other_low, other_high, _, _ in shards[at + 1:]:
                self.assertFalse(overlap(low, high, other_low, other_high), group.shards())

    def check_cover(self, group):
        """With all servers up, the newest shards cover all keys, and hold the table."""
        bounds = {""} | set(KEYS) | {shard[1] for shard in group.shards()} | {shard[2] for shard in group.shards()}
        for place in bounds - {None}:
            newest = group.newest(place)
            self.assertEqual(len(newest), 1, (place, group.shards()))
            me, low, high, epoch, _ = newest[0]
            items = dict(group.servers[me].content(low, high, epoch)[0])
            self.assertEqual(items.get(place), group.table.get(place), place)

    def check_answers(self, group):
        for client, number, answer in group.accepted:
            _, op, expected, table = group.done[client, number]
            if op[0] == "page":
                _, pairs, following = answer
                self.assertTrue(following is None or following > op[1])
                self.assertLessEqual(len(pairs), op[2])
                self.assertEqual(pairs, tuple(sorted((key, value) for key, value in table.items()
                                                     if op[1] <= key and (following is None or key < following))))
            else:
                self.assertEqual(answer, expected)

    def check_all(self, group):
        self.check_homes(group)
        if len(group.up()) == len(group.servers):
            self.check_cover(group)
        self.check_answers(group)


class Town(Group):
    """A group with a directory and clients, whose letters all go over the same network."""

    def __init__(self, count, clients):
        Group.__init__(self, count)
        self.directory = Directory(count)
        self.clients = {name: Client(name, count) for name in range(-clients, 0)}

    def send(self, sender, letters):
        self.packets.extend((sender, receiver, letter) for receiver, letter in letters)

    def submit(self, name, op):
        self.send(name, self.clients[name].submit(op))

    def order(self, me, letter):
        self.send(DIRECTORY, [(me, letter)])

    def tick_all(self):
        for me in self.up():
            self.tick(me)
        self.send(DIRECTORY, self.directory.tick())
        for name in sorted(self.clients, reverse=True):
            self.send(name, self.clients[name].tick())

    def look(self, me):
        """Do new requests on the table, each of which must be pending then."""
        before = dict(self.done)
        Group.look(self, me)
        for client, number in self.done.keys() - before.keys():
            if self.clients[client].pending() != (number, self.done[client, number][1]):
                raise AssertionError("done while it is not pending")

    def deliver(self, at):
        sender, receiver, letter = self.packets[at]
        if receiver == DIRECTORY:
            self.packets.pop(at)
            self.send(DIRECTORY, self.directory.receive(sender, letter))
        elif receiver < 0:
            self.packets.pop(at)
            client = self.clients[receiver]
            self.send(receiver, client.receive(sender, letter))
            self.accepted = [(name, number, answer) for name in sorted(self.clients)
                             for number, _, answer in self.clients[name].accepted()]
        else:
            Group.deliver(self, at)

    def bring_up(self):
        """Let no server be down, and none crash any more."""
        for me in range(len(self.servers)):
            if me not in self.up():
                self.restart(me, 5)
            else:
                self.disks[me].crash([])

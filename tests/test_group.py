"""Several servers, whose letters are lost, doubled, late and out of order, and which crash."""

import random
import unittest

from boundstone.limits import DIRECTORY
from groups import KEYS, Group, GroupTest


class HandoverTest(GroupTest):
    """One shard that goes from server 0 to server 1, step by step."""

    def begin(self):
        group = Group(3)
        group.call(0, lambda server: server.receive(-1, ("ask", 1, ("put", "c", "x"))))
        group.call(0, lambda server: server.receive(-1, ("ask", 2, ("put", "p", "y"))))
        group.call(0, lambda server: server.receive(DIRECTORY, ("split", "", None, 1, "m")))
        group.packets.clear()
        group.call(0, lambda server: server.receive(DIRECTORY, ("move", "m", None, 2, 1)))
        return group

    def finish(self, group):
        """Tick and deliver until nothing is held closed, and check where the shards are."""
        for me in range(3):
            if me not in group.up():
                group.restart(me, 0)
        for _ in range(3):
            for me in range(3):
                group.tick(me)
            group.round()
            self.check_all(group)
        self.assertEqual(group.shards(), [(0, "", "m", 2, "open"), (1, "m", None, 3, "open")])
        self.assertEqual(group.servers[1].receive(-1, ("ask", 2, ("get", "p"))), [(-1, ("answer", 2, ("done",)))])
        self.assertEqual(group.servers[0].receive(-1, ("ask", 2, ("get", "c"))), [(-1, ("answer", 2, ("done",)))])
        self.assertEqual(group.servers[0].receive(-1, ("ask", 2, ("get", "p"))), [(-1, ("elsewhere", 2))])
        self.assertEqual(group.servers[1].receive(-1, ("ask", 3, ("get", "p"))), [(-1, ("answer", 3, ("value", "y")))])

    def test_without_losses(self):
        group = self.begin()
        self.assertEqual(group.shards(), [(0, "", "m", 2, "open"), (0, "m", None, 2, 1)])
        group.deliver(0)
        self.assertEqual(group.shards(), [(0, "", "m", 2, "open"), (0, "m", None, 2, 1), (1, "m", None, 3, "open")])
        group.deliver(0)
        self.assertEqual(group.shards(), [(0, "", "m", 2, "open"), (1, "m", None, 3, "open")])
        self.finish(group)

    def test_letters_that_are_lost(self):
        for lost in range(1, 5):
            group = self.begin()
            group.packets.clear()
            for _ in range(lost):
                for me in range(3):
                    group.tick(me)
                group.packets.clear()
                self.check_all(group)
            group.tick(0)
            group.round()
            group.packets.clear()
            self.assertEqual(len(group.shards()), 3)
            self.finish(group)

    def test_letters_that_are_doubled_and_late(self):
        group = self.begin()
        content = group.packets[0]
        group.packets.append(content)
        group.round()
        receipt = group.packets[0]
        group.packets.append(receipt)
        group.round()
        group.call(1, lambda server: server.receive(-2, ("ask", 1, ("put", "q", "z"))))
        for _ in range(3):
            group.packets.extend([content, receipt, content])
            group.round()
            self.check_all(group)
        self.finish(group)

    def test_a_content_that_is_late_when_the_shard_has_gone_on(self):
        group = self.begin()
        content = group.packets[0]
        group.round()
        group.round()
        group.call(1, lambda server: server.receive(-2, ("ask", 1, ("put", "q", "z"))))
        group.call(1, lambda server: server.receive(DIRECTORY, ("move", "m", None, 3, 2)))
        group.round()
        group.round()
        before = group.shards()
        self.assertEqual(before, [(0, "", "m", 2, "open"), (2, "m", None, 4, "open")])
        group.packets.append(content)
        group.round()
        self.assertEqual(group.packets, [(1, 0, ("receipt", "m", None, 3))])
        group.round()
        self.assertEqual(group.shards(), before)
        self.check_all(group)
        group.call(2, lambda server: server.receive(DIRECTORY, ("move", "m", None, 4, 1)))
        group.round()
        group.round()
        group.packets.append(content)
        group.round()
        self.assertEqual(group.shards(), [(0, "", "m", 2, "open"), (1, "m", None, 5, "open")])
        self.check_all(group)

    def test_crashes_in_between(self):
        for me in (0, 1):
            for left in range(2):
                for keep in (0, 10, 10 ** 6):
                    for step in range(3):
                        group = self.begin()
                        for _ in range(step):
                            group.round()
                        group.disks[me].arm(left)
                        group.packets.extend([(0, 1, ("content", "m", None, 3, (("p", "y"),), ((-1, 2, ("done",)),))),
                                              (DIRECTORY, 1, ("split", "x", None, 1, "y"))])
                        group.round()
                        group.round()
                        self.check_all(group)
                        if me not in group.up():
                            group.restart(me, keep)
                        else:
                            group.disks[me].crash([])
                        self.check_all(group)
                        self.finish(group)

    def test_a_crash_of_the_close(self):
        for left in range(2):
            for keep in (0, 5, 10 ** 6):
                group = Group(2)
                group.call(0, lambda server: server.receive(-1, ("ask", 1, ("put", "c", "x"))))
                group.packets.clear()
                group.disks[0].arm(left)
                group.call(0, lambda server: server.receive(DIRECTORY, ("move", "", None, 1, 1)))
                self.assertEqual((group.up(), group.packets), ([1], []))
                group.restart(0, keep)
                closed = left == 1 and keep > 5
                self.assertEqual(group.shards(), [(0, "", None, 1, 1 if closed else "open")])
                group.tick(0)
                group.round()
                group.round()
                self.assertEqual(group.shards(), [(1, "", None, 2, "open") if closed else (0, "", None, 1, "open")])
                self.check_all(group)


class LifeTest(GroupTest):
    """Long lives, in which everything happens at every time."""

    def request(self, chance, group, clients):
        """Send the request of a client to some server, or let it go on to the next one."""
        client = chance.randint(-3, -1)
        if (client, clients[client][0]) in [row[:2] for row in group.accepted]:
            key = chance.choice(KEYS)
            op = chance.choice((("get", key), ("put", key, chance.choice("xyz")), ("drop", key), ("put", key, "w"),
                                ("swap", key, chance.choice("xyz"), "v"), ("page", key, 2), ("page", "", 3)))
            clients[client] = (clients[client][0] + 1, op)
        number, op = clients[client]
        group.packets.append((client, chance.randrange(len(group.servers)), ("ask", number, op)))

    def order(self, chance, group):
        shards = group.shards()
        if not shards:
            return
        me, low, high, epoch, _ = chance.choice(shards)
        kind = chance.choice(("move", "move", "split", "join"))
        if kind == "move":
            letter = ("move", low, high, epoch, chance.randrange(len(group.servers)))
        elif kind == "split":
            letter = ("split", low, high, epoch, chance.choice(KEYS))
        else:
            others = [shard for shard in shards if shard[1] == high] or [(0, "z", None, 1, "open")]
            _, _, end, other, _ = chance.choice(others)
            letter = ("join", low, high, epoch, end, other)
        group.packets.append((DIRECTORY, me, letter))

    def trouble(self, chance, group):
        """Lose, double or move a letter, or arm a disk."""
        if group.packets:
            at = chance.randrange(len(group.packets))
            kind = chance.choice(("lose", "double", "late"))
            if kind != "double":
                packet = group.packets.pop(at)
            else:
                packet = group.packets[at]
            if kind != "lose":
                group.packets.append(packet)
        if group.up() and chance.random() < 0.3:
            group.disks[chance.choice(group.up())].arm(chance.randint(0, 6))

    def step(self, chance, group, clients):
        luck = chance.random()
        if luck < 0.2:
            self.request(chance, group, clients)
        elif luck < 0.22:
            self.order(chance, group)
        elif luck < 0.26:
            self.trouble(chance, group)
        elif luck < 0.28 and group.up():
            group.tick(chance.choice(group.up()))
        elif luck < 0.3:
            for me in range(len(group.servers)):
                if me not in group.up():
                    group.restart(me, chance.randint(0, 60))
        elif group.packets:
            group.deliver(chance.randrange(len(group.packets)))

    def calm_down(self, group):
        """Bring all servers up, and deliver everything until nothing is held closed."""
        for me in range(len(group.servers)):
            if me not in group.up():
                group.restart(me, 10)
            else:
                # Its disk may still be armed.
                group.disks[me].crash([])
        for _ in range(4):
            for me in group.up():
                group.tick(me)
            while group.packets:
                group.round()
        self.assertEqual([shard for shard in group.shards() if shard[4] != "open"], [])

    def test_lives(self):
        crashes, moves, long_logs = 0, 0, 0
        for seed in range(30):
            chance = random.Random(seed)
            group = Group(chance.randint(1, 4))
            clients = {client: (1, ("put", "b", "first")) for client in (-3, -2, -1)}
            for step in range(2500):
                self.step(chance, group, clients)
                self.check_homes(group)
                if step % 25 == 0:
                    self.check_all(group)
            self.calm_down(group)
            self.check_all(group)
            # Every request is answered, and those that were accepted are answered in the same way again.
            for client, (number, op) in clients.items():
                group.packets.extend((client, me, ("ask", number, op)) for me in group.up())
            group.round()
            group.round()
            for client, (number, op) in clients.items():
                self.assertIn((client, number), [row[:2] for row in group.accepted])
            self.check_all(group)
            crashes += group.crashes
            moves += max(shard[3] for shard in group.shards())
            long_logs += group.rewritten
        self.assertGreater(min(crashes, moves, long_logs), 20, (crashes, moves, long_logs))


if __name__ == "__main__":
    unittest.main()

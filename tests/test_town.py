"""Servers, a directory and clients together, with a network that loses, doubles and delays, or is timely."""

import random
import unittest

from boundstone.directory import PLAN, Directory
from boundstone.limits import DIRECTORY
from groups import KEYS, GroupTest, Town

DONE = ("done",)
FOUR = "bdfh"


LETTERS = "abcdefghijklmnopqrstuvwxyz"


def some_operation(chance, keys, puts):
    """One of the operations, of which so many in ten are puts."""
    key = chance.choice(keys)
    if chance.randrange(10) < puts:
        return ("put", key, chance.choice("wxyz"))
    return chance.choice((("get", key), ("drop", key), ("drop", key), ("swap", key, chance.choice("xyz"), "v"),
                          ("page", key, 2), ("page", "", 3)))


class StoryTest(GroupTest):
    """What happens step by step, in a network that delivers everything."""

    def calm(self, town, count):
        for _ in range(count):
            town.tick_all()
            town.round()
            self.check_all(town)

    def test_a_request(self):
        town = Town(2, 1)
        town.submit(-1, ("put", "c", "x"))
        self.assertEqual(town.packets, [(-1, DIRECTORY, ("where", "c"))])
        town.round()
        self.assertEqual(town.packets, [])
        town.tick_all()
        self.assertEqual(town.packets, [(0, DIRECTORY, ("have", "", None, 1, 0, "")),
                                        (-1, DIRECTORY, ("where", "c"))])
        town.round()
        self.assertEqual(town.packets, [(DIRECTORY, -1, ("there", "", None, 1, 0))])
        town.round()
        self.assertEqual(town.packets, [(-1, 0, ("ask", 1, ("put", "c", "x")))])
        town.round()
        self.assertEqual(town.packets, [(0, -1, ("answer", 1, DONE))])
        town.round()
        self.assertEqual((town.packets, town.accepted), ([], [(-1, 1, DONE)]))
        self.assertEqual(town.clients[-1].accepted(), [(1, ("put", "c", "x"), DONE)])

    def test_a_client_finds_a_shard_that_has_moved(self):
        town = Town(3, 2)
        town.submit(-1, ("put", "c", "x"))
        self.calm(town, 5)
        town.order(0, ("move", "", None, 1, 2))
        town.round()
        town.submit(-1, ("put", "c", "y"))
        self.assertEqual(town.packets, [(0, 2, ("content", "", None, 2, (("c", "x"),), ((-1, 1, DONE),))),
                                        (-1, 0, ("ask", 2, ("put", "c", "y")))])
        town.packets.pop(0)
        town.round()
        self.assertEqual(town.packets, [(0, -1, ("elsewhere", 2))])
        town.round()
        self.assertEqual((town.packets, town.clients[-1].pieces()), ([], []))
        self.calm(town, 5)
        self.assertEqual(town.clients[-1].accepted(), [(1, ("put", "c", "x"), DONE), (2, ("put", "c", "y"), DONE)])
        self.assertEqual(town.clients[-1].pieces(), [("", None, ("", None, 2, 2, 0, ""))])
        self.assertEqual(town.shards(), [(2, "", None, 2, "open")])

    def test_an_answer_that_was_lost_is_given_again_where_the_shard_has_gone(self):
        town = Town(2, 1)
        town.submit(-1, ("put", "c", "x"))
        self.calm(town, 5)
        town.submit(-1, ("swap", "c", "x", "y"))
        town.round()
        self.assertEqual(town.packets, [(0, -1, ("answer", 2, DONE))])
        town.packets.clear()
        town.order(0, ("move", "", None, 1, 1))
        town.round()
        # Done again, the swap would find another value.
        self.calm(town, 8)
        self.assertEqual(town.clients[-1].accepted()[1:], [(2, ("swap", "c", "x", "y"), DONE)])
        self.assertEqual(town.table, {"c": "y"})
        self.assertEqual(town.done[-1, 2][0], 0)

    def test_an_answer_that_was_lost_is_given_again_after_a_crash(self):
        for keep in (0, 20, 1000):
            town = Town(1, 1)
            self.calm(town, 1)
            town.submit(-1, ("put", "c", "x"))
            town.round()
            town.round()
            town.round()
            self.assertEqual(town.packets, [(0, -1, ("answer", 1, DONE))])
            town.packets.clear()
            town.submit(-1, ("swap", "c", "x", "y"))
            town.restart(0, keep)
            self.calm(town, 4)
            self.assertEqual(town.clients[-1].accepted(), [(1, ("put", "c", "x"), DONE),
                                                           (2, ("swap", "c", "x", "y"), DONE)])

    def test_a_request_that_comes_twice_is_done_once(self):
        town = Town(1, 2)
        self.calm(town, 1)
        for name in (-1, -2):
            town.submit(name, ("put", "c", "x"))
        self.calm(town, 5)
        town.submit(-1, ("put", "c", "y"))
        ask = (-1, 0, ("ask", 2, ("put", "c", "y")))
        self.assertEqual(town.packets[-1], ask)
        town.round()
        town.round()
        town.submit(-2, ("put", "c", "z"))
        self.calm(town, 3)
        before = len(town.servers[0].records())
        town.packets.extend([ask, ask, (-1, 0, ("ask", 1, ("put", "c", "x")))])
        town.round()
        # The first one is a repetition, the last one is stale.
        self.assertEqual(town.packets, [(0, -1, ("answer", 2, DONE))] * 2)
        self.calm(town, 1)
        self.assertEqual((len(town.servers[0].records()), town.table), (before, {"c": "z"}))
        self.assertEqual(town.clients[-1].accepted()[1:], [(2, ("put", "c", "y"), DONE)])

    def test_the_plans_split_move_and_join(self):
        town = Town(2, 1)
        for number, key in enumerate(KEYS, start=1):
            town.submit(-1, ("put", key, str(number)))
        self.calm(town, PLAN - 1)
        while town.clients[-1].pending():
            town.round()
        self.assertEqual(town.shards(), [(0, "", None, 1, "open")])
        self.calm(town, PLAN + 4)
        self.assertEqual(town.shards(), [(0, "", "k", 2, "open"), (0, "k", None, 2, "open")])
        self.calm(town, PLAN)
        self.assertEqual(town.shards(), [(0, "k", None, 2, "open"), (1, "", "k", 3, "open")])
        for key in KEYS[2:]:
            town.submit(-1, ("drop", key))
        town.submit(-1, ("page", "", 50))
        town.submit(-1, ("page", "k", 50))
        self.calm(town, 3 * PLAN)
        pages = [answer for _, op, answer in town.clients[-1].accepted() if op[0] == "page"]
        self.assertEqual(pages, [("page", (("b", "1"), ("c", "2")), "k"), ("page", (), None)])
        # The two are at different servers with equal loads, so nothing more is planned.
        self.assertEqual(len(town.shards()), 2)
        town.order(1, ("move", "", "k", 3, 0))
        self.calm(town, 2 * PLAN)
        self.assertEqual([shard[1:3] for shard in town.shards()], [("", None)])


class Life(GroupTest):
    """Lives in which everything happens at every time."""

    def order(self, chance, town):
        shards = town.shards()
        if not shards:
            return
        me, low, high, epoch, _ = chance.choice(shards)
        kind = chance.choice(("move", "move", "split", "join"))
        if kind == "move":
            town.order(me, ("move", low, high, epoch, chance.randrange(len(town.servers))))
        elif kind == "split":
            town.order(me, ("split", low, high, epoch, chance.choice(KEYS)))
        else:
            others = [shard for shard in shards if shard[1] == high] or [(0, "z", None, 1, "open")]
            _, _, end, other, _ = chance.choice(others)
            town.order(me, ("join", low, high, epoch, end, other))

    def trouble(self, chance, town):
        if town.packets:
            at = chance.randrange(len(town.packets))
            kind = chance.choice(("lose", "lose", "double", "late"))
            packet = town.packets[at] if kind == "double" else town.packets.pop(at)
            if kind != "lose":
                town.packets.append(packet)
        if town.up() and chance.random() < 0.2:
            town.disks[chance.choice(town.up())].arm(chance.randint(0, 6))

    def step(self, chance, town):
        luck = chance.random()
        if luck < 0.08:
            name = chance.choice(list(town.clients))
            if town.clients[name].pending() is None or chance.random() < 0.3:
                town.submit(name, some_operation(chance, KEYS, 3))
        elif luck < 0.1:
            self.order(chance, town)
        elif luck < 0.16:
            self.trouble(chance, town)
        elif luck < 0.2:
            town.tick_all()
        elif luck < 0.21:
            for me in range(len(town.servers)):
                if me not in town.up():
                    town.restart(me, chance.randint(0, 60))
        elif luck < 0.212:
            town.directory = Directory(len(town.servers))
        elif town.packets:
            # Most letters are received soon, but some overtake many others.
            reach = len(town.packets) if chance.random() < 0.2 else min(5, len(town.packets))
            town.deliver(chance.randrange(reach))

    def live(self, seed, steps):
        chance = random.Random(seed)
        town = Town(chance.randint(1, 4), chance.randint(1, 5))
        for step in range(steps):
            self.step(chance, town)
            self.check_homes(town)
            if step % 25 == 0:
                self.check_all(town)
        return chance, town


class LifeTest(Life):
    def test_lives(self):
        crashes, moves, accepted = 0, 0, 0
        for seed in range(12):
            _, town = self.live(seed, 2500)
            town.bring_up()
            self.check_all(town)
            crashes += town.crashes
            moves += max(shard[3] for shard in town.shards())
            accepted += len(town.accepted)
        self.assertGreater(min(crashes, moves, accepted), 20, (crashes, moves, accepted))
        self.assertGreater(accepted, 500)


class TimelyTest(Life):
    """From a tick on the network is timely, and there are no orders but those of the plans."""

    def first_of_pair(self, town, at):
        """Tell whether no letter of the same two is before the one at this position."""
        return town.packets[at][:2] not in [packet[:2] for packet in town.packets[:at]]

    def deliver(self, town, at):
        """Deliver a packet, and note in which interval the letters are sent that it leads to."""
        town.sent.pop(at)
        town.deliver(at)
        town.sent.extend([town.now] * (len(town.packets) - len(town.sent)))

    def tick(self, chance, town, speed):
        """Tick, and then deliver what must be received before the next tick, and with some luck what may be."""
        town.now += 1
        town.tick_all()
        town.sent.extend([town.now] * (len(town.packets) - len(town.sent)))
        while True:
            due = [at for at, sent in enumerate(town.sent) if sent < town.now]
            early = [at for at, sent in enumerate(town.sent) if sent == town.now]
            soon = speed == "fast" or (speed == "mixed" and chance.random() < 0.7)
            free = [at for at in (due + early if soon else due) if self.first_of_pair(town, at)]
            if not free:
                return
            self.deliver(town, chance.choice(free))

    def waiting(self, town):
        return {(name, client.pending()[0]) for name, client in town.clients.items() if client.pending()}

    def check_timely(self, chance, town, ticks, speed):
        """Check how long each request is pending from now on."""
        town.now = 0
        town.sent = [0] * len(town.packets)
        since = {request: 0 for request in self.waiting(town)}
        longest = 0
        for _ in range(ticks):
            for name in town.clients:
                if chance.random() < 0.3:
                    # At first the table grows, and then it shrinks.
                    town.submit(name, some_operation(chance, LETTERS, 8 if 2 * town.now < ticks else 1))
            town.sent.extend([town.now] * (len(town.packets) - len(town.sent)))
            for request in self.waiting(town):
                since.setdefault(request, town.now)
            self.tick(chance, town, speed)
            waiting = self.waiting(town)
            for request in waiting:
                longest = max(longest, town.now - since.setdefault(request, town.now))
            self.check_homes(town)
            self.check_cover(town)
        self.check_answers(town)
        # One that is accepted at the end of the last interval in time was not seen to wait for longer than this.
        self.assertLess(longest, 2 * PLAN, (speed, longest))
        return longest

    def test_timely_lives(self):
        longest = 0
        for seed in range(24):
            chance, town = self.live(seed, 600)
            town.bring_up()
            # Of the letters that are in flight, none or some or all are lost.
            rate = chance.choice((0, 0.5, 1))
            town.packets = [packet for packet in town.packets if chance.random() >= rate]
            if seed % 2 == 0:
                town.directory = Directory(len(town.servers))
            before = len(town.accepted)
            longest = max(longest, self.check_timely(chance, town, 12 * PLAN, ("slow", "fast", "mixed")[seed % 3]))
            self.assertGreater(len(town.accepted), before)
        # The slow networks are slow indeed.
        self.assertGreater(longest, 6)


if __name__ == "__main__":
    unittest.main()

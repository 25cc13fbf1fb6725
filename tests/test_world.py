import random
import unittest
from unittest import mock

from boundstone.acts import MOST_TICKS
from boundstone.directory import PLAN
from boundstone.errors import BadRecord, BadSchedule
from boundstone.files import Disk
from boundstone.history import History
from boundstone.judge import judge
from boundstone.limits import DIRECTORY, MOST_CLIENTS, MOST_NUMBER, MOST_SERVERS
from boundstone.log import line_of
from boundstone.schedule import act_line, run_schedule
from boundstone.server import LOG_LIMIT
from boundstone.world import World
from parts import FORMS, SENDERS
from test_acts import ACTS
from values import NO_INTEGERS, NO_STRINGS, NO_TUPLES
from worlds import bring_up, go_on, live, look, world_of

DONE = ("done",)
NONE = ("none",)
GET = ("get", "c")
PUT = ("put", "c", "x")
ALL = ("", None, 1)
MOVE = ("move",) + ALL + (1,)
FIRST = ("opened", "", None, 1, (), ())

# The acts after which client -1 has done PUT, and knows server 0.
BEGIN = (("submit", -1, PUT), ("calm", 5))


def did(number, op, low="", epoch=1, client=-1):
    return ("did", low, epoch, client, number, op)


class WorldTest(unittest.TestCase):
    def check_bad(self, function, reason, *arguments):
        with self.assertRaises(BadSchedule) as caught:
            function(*arguments)
        self.assertEqual((caught.exception.line, caught.exception.reason), (0, reason))

    def check_act(self, world, act):
        self.assertIsNone(world.act(act))

    def check_history(self, world, *events):
        self.assertEqual(world.history().events(), list(events))


class NewTest(WorldTest):
    def test_bad_numbers(self):
        for servers in NO_INTEGERS + (0, -1, MOST_SERVERS + 1, MOST_NUMBER):
            for clients in (0, 1, -1, MOST_CLIENTS + 1, True, None):
                self.check_bad(World, "servers", servers, clients)
        for servers in (1, 2, MOST_SERVERS):
            for clients in NO_INTEGERS + (-1, -2, MOST_CLIENTS + 1, MOST_NUMBER):
                self.check_bad(World, "clients", servers, clients)

    def test_a_new_world(self):
        for servers in (1, 2, 3, MOST_SERVERS):
            for clients in (0, 1, 2, MOST_CLIENTS):
                world = World(servers, clients)
                self.assertEqual(look(world, servers, clients), {
                    "time": 0,
                    "packets": [],
                    "up": [True] * servers,
                    "shards": [[("", None, 1, "open")]] + [[]] * (servers - 1),
                    "contents": [((), ())],
                    "holdings": [(0, "", None, 1, "open", ())],
                    "clients": [(None, [], [])] * clients,
                    "pieces": [],
                    "history": [],
                })
                self.assertIs(world.history().__class__, History)
                self.check_bad(world.client, "client", -clients - 1)
                self.check_bad(world.is_up, "server", servers)

    def test_worlds_are_independent(self):
        one, other = World(2, 1), World(2, 1)
        for act in BEGIN + (("crash", 1),):
            one.act(act)
        self.assertEqual(look(other, 2, 1), look(World(2, 1), 2, 1))

    def test_no_clients(self):
        world = world_of(2, 0, ("calm", 20), ("order", 0, MOVE), ("calm", 5))
        self.assertEqual(world.holdings(), [(1, "", None, 2, "open", ())])
        self.check_bad(world.act, "client", ("submit", -1, GET))
        self.check_history(world)


class TickTest(WorldTest):
    def test_the_order_of_the_letters(self):
        world = world_of(3, 3, ("submit", -2, GET), ("submit", -1, ("page", "", 3)), ("order", 0, MOVE), ("round",))
        self.assertEqual(world.packets(), [(0, 1, ("content", "", None, 2, (), ()))])
        self.check_act(world, ("tick", 1))
        self.assertEqual(world.packets()[1:], [
            (0, 1, ("content", "", None, 2, (), ())), (-1, DIRECTORY, ("where", "")), (-2, DIRECTORY, ("where", "c"))])
        self.check_act(world, ("deliver", 0))
        self.check_act(world, ("tick", 1))
        self.assertEqual(world.packets()[4:], [
            (0, 1, ("content", "", None, 2, (), ())), (1, DIRECTORY, ("have", "", None, 2, 0, "")),
            (-1, DIRECTORY, ("where", "")), (-2, DIRECTORY, ("where", "c"))])
        self.assertEqual(world.time(), 2)

    def test_the_orders_of_the_directory_stand_between(self):
        world = world_of(2, 2, *[("submit", -1, ("put", key, "x")) for key in "bcdefghij"], ("tick", 1))
        while world.packets():
            world.act(("round",))
        world.act(("calm", PLAN - 2))
        world.act(("submit", -2, GET))
        self.assertEqual(world.pieces(), [("", None, ("", None, 1, 0, 9, "f"))])
        before = world.packets()
        world.act(("tick", 1))
        self.assertEqual(world.packets()[len(before):], [
            (0, DIRECTORY, ("have", "", None, 1, 9, "f")), (DIRECTORY, 0, ("split", "", None, 1, "f")),
            (-2, DIRECTORY, ("where", "c"))])

    def test_several_ticks(self):
        for count in (1, 2, 3, 17, MOST_TICKS):
            world = world_of(2, 1, ("submit", -1, GET))
            self.check_act(world, ("tick", count))
            self.assertEqual(world.time(), count)
            pair = [(0, DIRECTORY, ("have", "", None, 1, 0, "")), (-1, DIRECTORY, ("where", "c"))]
            self.assertEqual(world.packets(), [(-1, DIRECTORY, ("where", "c"))] + pair * count)
            self.assertEqual(world.pieces(), [])

    def test_only_servers_that_are_up(self):
        world = world_of(3, 0, ("crash", 0), ("tick", 2))
        self.assertEqual((world.packets(), world.time()), ([], 2))
        world.act(("restart", 0, 0))
        world.act(("tick", 1))
        self.assertEqual(world.packets(), [(0, DIRECTORY, ("have", "", None, 1, 0, ""))])


class DeliverTest(WorldTest):
    def test_each_position(self):
        for at in range(3):
            world = world_of(1, 1, ("tick", 1), ("submit", -1, GET), ("tick", 1))
            before = world.packets()
            self.assertEqual(len(before), 4)
            self.check_act(world, ("deliver", at))
            self.assertEqual(world.packets()[:3], before[:at] + before[at + 1:])

    def test_to_the_directory_a_client_and_a_server(self):
        world = world_of(2, 1, ("tick", 1), ("submit", -1, PUT))
        self.check_act(world, ("deliver", 0))
        self.assertEqual(world.pieces(), [("", None, ("", None, 1, 0, 0, ""))])
        self.assertEqual(world.packets(), [(-1, DIRECTORY, ("where", "c"))])
        self.check_act(world, ("deliver", 0))
        self.assertEqual(world.packets(), [(DIRECTORY, -1, ("there", "", None, 1, 0))])
        self.check_act(world, ("deliver", 0))
        self.assertEqual(world.packets(), [(-1, 0, ("ask", 1, PUT))])
        self.assertEqual(world.client(-1).pieces(), [("", None, ("", None, 1, 0, 0, ""))])
        self.check_act(world, ("deliver", 0))
        self.assertEqual(world.packets(), [(0, -1, ("answer", 1, DONE))])
        self.assertEqual(world.holdings(), [(0, "", None, 1, "open", (("c", "x"),))])
        self.assertEqual(world.content(0, *ALL), ((("c", "x"),), ((-1, 1, DONE),)))
        self.check_act(world, ("deliver", 0))
        self.assertEqual((world.packets(), world.client(-1).accepted()), ([], [(1, PUT, DONE)]))
        self.assertEqual(world.time(), 1)

    def test_to_the_client_of_the_name(self):
        world = world_of(1, 3, ("calm", 2), ("submit", -2, GET), ("round",))
        self.assertEqual(world.packets(), [(DIRECTORY, -2, ("there", "", None, 1, 0))])
        world.act(("round",))
        self.assertEqual([len(world.client(name).pieces()) for name in (-1, -2, -3)], [0, 1, 0])

    def test_to_a_server_that_is_down(self):
        world = world_of(2, 1, *BEGIN, ("submit", -1, GET), ("crash", 0))
        self.assertEqual(world.packets(), [(-1, 0, ("ask", 2, GET))])
        before = look(world, 2, 1)
        self.check_act(world, ("deliver", 0))
        self.assertEqual(look(world, 2, 1), {**before, "packets": []})
        world.act(("restart", 0, 0))
        world.act(("calm", 2))
        self.assertEqual(world.client(-1).accepted()[1:], [(2, GET, ("value", "x"))])

    def test_to_somebody_that_the_world_does_not_have(self):
        for receiver in (-3, -MOST_CLIENTS, 2, MOST_SERVERS):
            world = world_of(2, 2, *BEGIN)
            # No act leads to such a packet.
            world._net.send(0, receiver, ("answer", 1, DONE))
            before = look(world, 2, 2)
            self.check_act(world, ("deliver", 0))
            self.assertEqual(look(world, 2, 2), {**before, "packets": []})


class RoundTest(WorldTest):
    def test_round(self):
        world = World(2, 2)
        self.check_act(world, ("round",))
        self.assertEqual(look(world, 2, 2), look(World(2, 2), 2, 2))
        world = world_of(2, 2, ("tick", 1), ("submit", -1, GET), ("submit", -2, PUT))
        self.assertEqual(len(world.packets()), 3)
        self.check_act(world, ("round",))
        self.assertEqual(world.packets(), [(DIRECTORY, -1, ("there", "", None, 1, 0)),
                                           (DIRECTORY, -2, ("there", "", None, 1, 0))])
        self.check_act(world, ("round",))
        self.assertEqual(world.packets(), [(-1, 0, ("ask", 1, GET)), (-2, 0, ("ask", 1, PUT))])
        self.check_act(world, ("round",))
        self.assertEqual(world.packets(), [(0, -1, ("answer", 1, NONE)), (0, -2, ("answer", 1, DONE))])
        self.assertEqual(world.time(), 1)

    def test_packets_for_a_server_that_is_down_count(self):
        world = world_of(2, 1, *BEGIN, ("order", 0, MOVE), ("submit", -1, GET), ("tick", 1), ("crash", 0))
        self.assertEqual(len(world.packets()), 4)
        self.check_act(world, ("round",))
        self.assertEqual(world.packets(), [])

    def test_calm(self):
        for count in (1, 2, 7, 40):
            one, other = world_of(2, 1, ("submit", -1, PUT)), world_of(2, 1, ("submit", -1, PUT))
            self.check_act(one, ("calm", count))
            for _ in range(count):
                other.act(("tick", 1))
                other.act(("round",))
            self.assertEqual(look(one, 2, 1), look(other, 2, 1))
            self.assertEqual(one.time(), count)


class NetworkTest(WorldTest):
    def test_lose_double_and_move(self):
        for at in range(4):
            for kind in ("lose", "double", "move"):
                world = world_of(1, 1, ("tick", 1), ("submit", -1, GET), ("tick", 1))
                before = look(world, 1, 1)
                packets = before["packets"]
                self.check_act(world, (kind, at))
                rest = packets[:at] + packets[at + 1:]
                expected = {"lose": rest, "double": packets + [packets[at]], "move": rest + [packets[at]]}[kind]
                self.assertEqual(look(world, 1, 1), {**before, "packets": expected})

    def test_order(self):
        letters = (MOVE, ("split", "b", "d", 7, "c"), ("join", "b", "c", 1, "d", 2), ("move", "x", None, 9, 0))
        for letter in letters:
            for server in (0, 1):
                world = world_of(2, 0, ("tick", 1), ("crash", 1))
                before = look(world, 2, 0)
                self.check_act(world, ("order", server, letter))
                packets = before["packets"] + [(DIRECTORY, server, letter)]
                self.assertEqual(look(world, 2, 0), {**before, "packets": packets})

    def test_an_order_is_carried_out_when_it_is_delivered(self):
        world = world_of(2, 1, *BEGIN, ("order", 0, ("split", "", None, 1, "m")))
        self.assertEqual(world.shards(0), [("", None, 1, "open")])
        world.act(("deliver", 0))
        self.assertEqual(world.shards(0), [("", "m", 2, "open"), ("m", None, 2, "open")])
        world.act(("order", 0, ("move", "m", None, 2, 1)))
        world.act(("deliver", 0))
        self.assertEqual(world.holdings(), [(0, "", "m", 2, "open", (("c", "x"),)), (0, "m", None, 2, 1, ())])
        world.act(("deliver", 0))
        self.assertEqual(world.holdings()[1:], [(0, "m", None, 2, 1, ()), (1, "m", None, 3, "open", ())])
        self.assertEqual(world.packets(), [(1, 0, ("receipt", "m", None, 3))])
        world.act(("deliver", 0))
        self.assertEqual(world.holdings()[1:], [(1, "m", None, 3, "open", ())])


class SubmitTest(WorldTest):
    def test_submit(self):
        world = World(2, 2)
        self.check_act(world, ("submit", -2, PUT))
        self.assertEqual(world.packets(), [(-2, DIRECTORY, ("where", "c"))])
        self.assertEqual((world.client(-1).pending(), world.client(-2).pending()), (None, (1, PUT)))
        self.check_act(world, ("submit", -2, GET))
        self.assertEqual(len(world.packets()), 1)
        world.act(("calm", 7))
        self.assertEqual(world.client(-2).accepted(), [(1, PUT, DONE), (2, GET, ("value", "x"))])


class UpAndDownTest(WorldTest):
    def test_crash(self):
        world = world_of(2, 1, *BEGIN)
        before = look(world, 2, 1)
        self.check_act(world, ("crash", 0))
        self.assertEqual(look(world, 2, 1), {
            **before, "up": [False, True], "shards": [[], []], "contents": [], "holdings": [],
            "history": before["history"] + [("crash", 5, 0)]})
        self.assertEqual(world.shards(0), [])
        with self.assertRaises(BadRecord):
            world.content(0, *ALL)

    def test_restart(self):
        for keep in (0, 1, 1000, MOST_NUMBER):
            world = world_of(2, 1, *BEGIN)
            before = look(world, 2, 1)
            world.act(("crash", 0))
            self.check_act(world, ("restart", 0, keep))
            self.assertEqual(look(world, 2, 1), {**before, "history": before["history"] + [("crash", 5, 0)]})

    def test_arm(self):
        for left in range(5):
            world = world_of(2, 1, *BEGIN)
            before = look(world, 2, 1)
            self.check_act(world, ("arm", 0, left))
            self.assertEqual(look(world, 2, 1), before)
            for number in range(2, 6):
                world.act(("submit", -1, PUT))
                world.act(("round",))
                world.act(("round",))
            # Each request takes two operations of the disk.
            self.assertEqual(world.is_up(0), False)
            self.assertEqual(world.client(-1).pending(), (2 + left // 2, PUT))

    def test_a_later_arm_replaces_an_earlier_one_and_a_restart_disarms(self):
        world = world_of(1, 1, *BEGIN, ("arm", 0, 0), ("arm", 0, 2), ("submit", -1, PUT), ("round",), ("round",))
        self.assertEqual((world.is_up(0), len(world.client(-1).accepted())), (True, 2))
        for acts in ((("crash", 0), ("restart", 0, 0)), (("submit", -1, PUT), ("round",), ("restart", 0, 0))):
            world = world_of(1, 1, *BEGIN, ("arm", 0, 0), *acts, ("submit", -1, PUT), ("calm", 20))
            self.assertEqual((world.is_up(0), world.client(-1).pending()), (True, None))

    def test_keep(self):
        """Which request is in the log when the server comes up again."""
        line = line_of(did(2, ("put", "c", "y")))
        for left in (0, 1):
            for keep in (0, 1, 5, len(line) - 1, len(line), len(line) + 1, MOST_NUMBER):
                world = world_of(1, 1, *BEGIN, ("arm", 0, left), ("submit", -1, ("put", "c", "y")), ("round",))
                self.assertEqual((world.is_up(0), world.packets()), (False, []))
                self.check_act(world, ("restart", 0, keep))
                kept = left == 1 and keep >= len(line)
                self.assertEqual(world.content(0, *ALL)[0], (("c", "y" if kept else "x"),))

    def test_keep_counts_for_each_file(self):
        log, other = line_of(did(2, PUT)), "pending"
        for keep in range(8):
            world = world_of(1, 1, *BEGIN, ("arm", 0, 2))
            # A file whose name comes before that of the log.
            world._disks[0].append("a", other)
            world.act(("submit", -1, PUT))
            world.act(("round",))
            self.assertEqual(world.is_up(0), False)
            with mock.patch.object(Disk, "crash", autospec=True, side_effect=Disk.crash) as crash:
                world.act(("restart", 0, keep))
            self.assertEqual([list(call.args[1]) for call in crash.call_args_list], [[keep, keep]])
            self.assertEqual(world._disks[0].read("a"), other[:keep])
            self.assertGreater(len(log), 8)


class CrashTest(WorldTest):
    """Servers that crash at each operation of their disk."""

    def long_log(self):
        """A world whose server 0 has a log that is rewritten at the next tick."""
        acts = [("submit", -1, ("put", "bcdf"[number % 4], str(number))) for number in range(LOG_LIMIT + 8)]
        world = world_of(2, 1, *acts, ("calm", 3))
        while world.client(-1).pending():
            world.act(("round",))
        return world

    def check_crash(self, make, act, left, keep):
        """Let server 0 crash during an act, and return what the world is like when it has come up again."""
        world = make()
        before = look(world, 2, 1)
        world.act(("arm", 0, left))
        self.check_act(world, act)
        down = look(world, 2, 1)
        if down["up"][0]:
            return None
        self.assertEqual(down["history"], before["history"] + [("crash", world.time(), 0)])
        self.assertEqual([packet for packet in down["packets"] if packet[0] == 0],
                         [packet for packet in before["packets"] if packet[0] == 0])
        self.assertEqual((down["shards"][0], down["holdings"]), ([], before["holdings"][1:]))
        self.check_act(world, ("restart", 0, keep))
        after = look(world, 2, 1)
        self.assertEqual({**after, "shards": 0, "contents": 0, "holdings": 0, "up": 0, "history": 0},
                         {**down, "shards": 0, "contents": 0, "holdings": 0, "up": 0, "history": 0})
        self.assertEqual(after["up"], [True, True])
        self.assertEqual(after["history"][:len(down["history"])], down["history"])
        return after["holdings"], after["history"][len(down["history"]):]

    def check_operations(self, make, act, operations, effects, event):
        """Check the crash at each operation of an act, which has these effects, and this event if it has one."""
        world = make()
        before = world.holdings()
        seen = []
        for left in range(operations):
            for keep in (0, 1, 5, 10, 20, 10 ** 6):
                found = self.check_crash(make, act, left, keep)
                if found == (before, []):
                    seen.append("before")
                else:
                    self.assertEqual(found, (effects, event))
                    seen.append("after")
        self.assertIsNone(self.check_crash(make, act, operations, 0))
        return seen

    def test_a_request(self):
        def make():
            return world_of(2, 1, *BEGIN, ("submit", -1, ("put", "c", "y")))
        effects = [(0,) + ALL + ("open", (("c", "y"),))]
        seen = self.check_operations(make, ("deliver", 0), 2, effects, [("done", 5, 0, did(2, ("put", "c", "y")))])
        self.assertEqual(seen, ["before"] * 11 + ["after"])

    def test_orders(self):
        def make(letter):
            return lambda: world_of(2, 1, *BEGIN, ("order", 0, letter))
        pairs = (("c", "x"),)
        for letter, effects in (
                (MOVE, [(0,) + ALL + (1, pairs)]),
                (("split", "", None, 1, "c"), [(0, "", "c", 2, "open", ()), (0, "c", None, 2, "open", pairs)])):
            seen = self.check_operations(make(letter), ("deliver", 0), 2, effects, [])
            self.assertEqual(seen, ["before"] * 11 + ["after"])

    def test_a_receipt(self):
        def make():
            return world_of(2, 1, *BEGIN, ("order", 0, MOVE), ("round",), ("round",))
        effects = [(1, "", None, 2, "open", (("c", "x"),))]
        self.assertEqual(make().packets(), [(1, 0, ("receipt", "", None, 2))])
        world = make()
        world.act(("arm", 0, 1))
        world.act(("deliver", 0))
        self.assertEqual((world.is_up(0), world.holdings()), (False, effects))
        world.act(("restart", 0, 1000))
        self.assertEqual(world.holdings(), effects)
        world = world_of(2, 1, *BEGIN, ("order", 0, MOVE), ("round",), ("round",), ("arm", 0, 0), ("deliver", 0),
                         ("restart", 0, 1000))
        self.assertEqual(world.holdings(), [(0,) + ALL + (1, (("c", "x"),))] + effects)

    def test_a_tick(self):
        holdings = self.long_log().holdings()
        # The summary has two records: an append for each, a sync and a renaming.
        seen = self.check_operations(self.long_log, ("tick", 1), 4, holdings, [])
        self.assertEqual(seen, ["before"] * 24)

    def test_a_tick_goes_on_when_a_server_crashes(self):
        world = self.long_log()
        world.act(("arm", 0, 0))
        world.act(("submit", -1, GET))
        before = world.packets()
        world.act(("tick", 2))
        self.assertEqual(world.packets()[len(before):], [(-1, 0, ("ask", LOG_LIMIT + 9, GET))] * 2)
        self.assertEqual(world.time(), 5)
        self.assertEqual(world.history().events()[-1], ("crash", 4, 0))

    def test_a_log_that_is_rewritten(self):
        world = self.long_log()
        before = look(world, 2, 1)
        world.act(("tick", 1))
        self.assertEqual(look(world, 2, 1)["history"], before["history"])
        self.assertEqual(sum(event[0] == "done" for event in before["history"]), LOG_LIMIT + 8)
        # New records come at places of the log where others were before.
        for number in range(LOG_LIMIT + 9, 2 * LOG_LIMIT + 12):
            world.act(("submit", -1, ("put", "c", str(number))))
            world.act(("calm", 2))
            dones = [event for event in world.history().events() if event[0] == "done"]
            self.assertEqual([event[3][4] for event in dones], list(range(1, number + 1)))
        world.act(("crash", 0))
        world.act(("restart", 0, 0))
        self.assertEqual([event for event in world.history().events() if event[0] == "done"], dones)

    def test_a_creation_that_crashes(self):
        def crash_and_arm(left):
            def crash(disk, keeps, real=Disk.crash):
                real(disk, keeps)
                disk.arm(left)
            return mock.patch.object(Disk, "crash", crash)

        make = (("submit", -1, ("put", "c", "y")), ("arm", 0, 1), ("round",))
        for left in range(4):
            world = world_of(1, 1, *BEGIN, *make)
            before = look(world, 1, 1)
            # A part of the line of the request is in the log, so the log is rewritten when it is recovered.
            with crash_and_arm(left):
                self.check_act(world, ("restart", 0, 5))
            self.assertEqual(look(world, 1, 1), {**before, "history": before["history"] + [("crash", 5, 0)]})
            self.assertEqual(world.is_up(0), False)
            self.check_act(world, ("restart", 0, 1000))
            self.assertEqual(world.content(0, *ALL)[0], (("c", "x"),))
            world.act(("calm", 3))
            self.assertEqual(world.client(-1).accepted(), [(1, PUT, DONE), (2, ("put", "c", "y"), DONE)])
            self.assertEqual(judge(world.history().events(), world.holdings()), [])
        world = world_of(1, 1, *BEGIN, *make)
        with crash_and_arm(4):
            self.check_act(world, ("restart", 0, 5))
        self.assertEqual(world.is_up(0), True)

    def test_a_first_creation_that_crashes(self):
        def armed(real=Disk):
            disk = real()
            disk.arm(1)
            return disk

        with mock.patch("boundstone.world.Disk", armed):
            world = World(2, 1)
        self.assertEqual((world.is_up(0), world.is_up(1)), (False, True))
        self.check_history(world, ("crash", 0, 0))
        world.act(("restart", 0, 3))
        self.assertEqual(world.holdings(), [(0,) + ALL + ("open", ())])


class RefusedTest(WorldTest):
    # Server 2 is down, and four packets are in flight.
    ACTS = BEGIN + (("order", 0, MOVE), ("order", 2, MOVE), ("submit", -1, GET), ("submit", -2, GET), ("crash", 2))

    def check(self, act, reason):
        world = world_of(3, 2, *self.ACTS)
        before = look(world, 3, 2)
        self.check_bad(world.act, reason, act)
        self.assertEqual(look(world, 3, 2), before)
        # What cannot be seen has not changed either.
        twin = world_of(3, 2, *self.ACTS)
        for later in (("calm", 2), ("submit", -2, PUT), ("restart", 2, 0), ("calm", 40)):
            world.act(later)
            twin.act(later)
        self.assertEqual(look(world, 3, 2), look(twin, 3, 2))

    def test_what_is_possible(self):
        for act in (("deliver", 3), ("lose", 3), ("double", 3), ("move", 3), ("order", 2, MOVE), ("order", 1, MOVE),
                    ("arm", 1, 0), ("arm", 0, MOST_NUMBER), ("crash", 1), ("restart", 2, 0), ("submit", -2, GET)):
            self.check_act(world_of(3, 2, *self.ACTS), act)

    def test_act(self):
        for act, _ in ACTS:
            self.check(act[:-1] if len(act) > 1 else ("rounds",), "act")
            self.check(act + (0,), "act")
        for value in NO_TUPLES + ((), ("fly",), ("world", 1, 1), ["round"]) + tuple((kind, 1) for kind in NO_STRINGS):
            self.check_bad(world_of(3, 2, *self.ACTS).act, "act", value)

    def test_number(self):
        for number in (-1, MOST_NUMBER + 1, True, None, "1"):
            for act in (("tick", number), ("calm", number), ("deliver", number), ("lose", number), ("double", number),
                        ("move", number), ("arm", 0, number), ("restart", 2, number)):
                self.check(act, "number")
        for count in (0, MOST_TICKS + 1, MOST_NUMBER):
            self.check(("tick", count), "number")
            self.check(("calm", count), "number")

    def test_client_and_operation(self):
        for client in (0, 1, -3, -MOST_CLIENTS, DIRECTORY, True, None, "-1", (), []):
            self.check(("submit", client, GET), "client")
        for op in (None, (), ("get",), ("get", ""), ("done",), ("page", "a", 0), "get", ["get", "c"]):
            for client in (-1, -2):
                self.check(("submit", client, op), "operation")
            self.check(("submit", -3, op), "client")

    def test_position(self):
        for position in (4, 5, MOST_NUMBER):
            for kind in ("deliver", "lose", "double", "move"):
                self.check((kind, position), "position")
                self.check_bad(World(1, 1).act, "position", (kind, 0))

    def test_server_and_letter(self):
        for server in (-1, 3, 4, DIRECTORY, True, False, None, "0", (), []):
            for act in (("order", server, MOVE), ("order", server, None), ("arm", server, 0), ("crash", server),
                        ("restart", server, 0)):
                self.check(act, "server")
        for letter in (None, (), "move", ["move", "", None, 1, 1], ("move", "", None, 1, 3), ("move", "", None, 0, 1),
                       ("split", "", None, 1, ""), ("join", "b", "a", 1, None, 1), ("move", "", None, 1)):
            for server in (0, 2):
                self.check(("order", server, letter), "letter")
        for letter, _ in FORMS:
            if SENDERS[letter[0]] != ("directory", "server"):
                self.check(("order", 0, letter), "letter")

    def test_state(self):
        self.check(("arm", 2, 0), "state")
        self.check(("crash", 2), "state")
        for server in (0, 1):
            for keep in (0, 5):
                self.check(("restart", server, keep), "state")

    def test_two_reasons_at_once(self):
        for act, reason in ((("arm", 3, -1), "number"), (("restart", 3, -1), "number"),
                            (("restart", 0, True), "number"), (("arm", 2, None), "number"),
                            (("arm", 2, 0, 0), "act"), (("submit", -3, None), "client"), (("order", 3, None), "server"),
                            (("order", 2, None), "letter"), (("tick",), "act"),
                            (("deliver", -1), "number"), (("deliver", -1, 0), "act"), (("crash", 3, 3), "act")):
            self.check(act, reason)


class HistoryTest(WorldTest):
    def test_a_request(self):
        world = world_of(1, 1, ("tick", 2), ("submit", -1, PUT))
        events = [("call", 2, -1, 1, PUT)]
        self.check_history(world, *events)
        for act, event in ((("round",), None), (("tick", 1), None), (("round",), None),
                           (("round",), ("done", 3, 0, did(1, PUT))), (("tick", 3), None),
                           (("round",), ("accept", 6, -1, 1, DONE))):
            world.act(act)
            events += [event] if event else []
            self.check_history(world, *events)

    def test_a_queue(self):
        world = world_of(1, 1, ("submit", -1, PUT), ("submit", -1, GET), ("submit", -1, GET))
        self.check_history(world, ("call", 0, -1, 1, PUT))
        world.act(("calm", 9))
        self.check_history(
            world, ("call", 0, -1, 1, PUT), ("done", 3, 0, did(1, PUT)), ("accept", 4, -1, 1, DONE),
            ("call", 4, -1, 2, GET), ("done", 5, 0, did(2, GET)), ("accept", 6, -1, 2, ("value", "x")),
            ("call", 6, -1, 3, GET), ("done", 7, 0, did(3, GET)), ("accept", 8, -1, 3, ("value", "x")))
        world.act(("submit", -1, PUT))
        self.assertEqual(world.history().events()[9:], [("call", 9, -1, 4, PUT)])

    def test_several_clients(self):
        world = world_of(2, 3, ("submit", -3, PUT), ("submit", -1, GET), ("calm", 5))
        self.check_history(
            world, ("call", 0, -3, 1, PUT), ("call", 0, -1, 1, GET), ("done", 3, 0, did(1, GET)),
            ("done", 3, 0, did(1, PUT, client=-3)), ("accept", 4, -1, 1, NONE), ("accept", 4, -3, 1, DONE))

    def test_a_request_is_done_once(self):
        world = world_of(1, 1, *BEGIN, ("submit", -1, GET), ("double", 0), ("double", 0), ("tick", 3), ("round",),
                         ("round",), ("round",))
        self.assertEqual(world.history().events()[3:], [
            ("call", 5, -1, 2, GET), ("done", 8, 0, did(2, GET)), ("accept", 8, -1, 2, ("value", "x"))])

    def test_other_records_are_no_events(self):
        world = world_of(2, 1, *BEGIN, ("order", 0, ("split", "", None, 1, "m")), ("order", 0, ("move", "", "m", 2, 1)),
                         ("round",), ("round",), ("round",))
        self.assertEqual(world.shards(1), [("", "m", 3, "open")])
        self.assertEqual(len(world.history().events()), 3)

    def test_requests_of_a_shard_that_has_moved(self):
        world = world_of(2, 1, *BEGIN, ("order", 0, MOVE), ("calm", 4), ("submit", -1, GET), ("calm", 6))
        events = world.history().events()
        self.assertEqual(events[3], ("call", 9, -1, 2, GET))
        self.assertEqual((events[4][0], events[4][2:]), ("done", (1, did(2, GET, "", 2))))
        self.assertEqual((events[5][0], events[5][2:]), ("accept", (-1, 2, ("value", "x"))))

    def test_crashes(self):
        world = world_of(3, 0, ("tick", 2), ("crash", 1), ("tick", 1), ("crash", 0), ("restart", 1, 0), ("tick", 1),
                         ("crash", 1), ("restart", 0, 0))
        self.check_history(world, ("crash", 2, 1), ("crash", 3, 0), ("crash", 4, 1))

    def test_a_request_in_the_log_of_a_server_that_crashed(self):
        op = ("put", "c", "y")
        world = world_of(1, 1, *BEGIN, ("submit", -1, op), ("arm", 0, 1), ("tick", 1), ("round",), ("tick", 2))
        self.assertEqual(world.history().events()[3:], [("call", 5, -1, 2, op), ("crash", 6, 0)])
        world.act(("restart", 0, 1000))
        self.assertEqual(world.history().events()[5:], [("done", 8, 0, did(2, op))])
        world.act(("crash", 0))
        world.act(("restart", 0, 0))
        world.act(("calm", 3))
        self.assertEqual(world.history().events()[6:], [("crash", 8, 0), ("accept", 10, -1, 2, DONE)])

    def test_several_requests_in_the_order_of_the_log(self):
        world = world_of(1, 3, *BEGIN, *[("submit", name, PUT) for name in (-2, -3, -1)], ("calm", 5))
        dones = [event[3] for event in world.history().events() if event[0] == "done"]
        self.assertEqual(sorted(dones), sorted(world._servers[0].records()[1:]))
        self.assertEqual(dones, world._servers[0].records()[1:])

    def test_the_history_is_new_each_time(self):
        world = world_of(1, 1, *BEGIN)
        history = world.history()
        events = history.events()
        history.add(("crash", 5, 0))
        self.check_history(world, *events)
        world.act(("submit", -1, GET))
        self.assertEqual(len(history.events()), 4)
        self.assertEqual(len(world.history().events()), 4)
        self.check_bad(world.history().add, "call", ("call", 5, -1, 3, GET))


class LookTest(WorldTest):
    def test_lists_may_be_changed_by_their_caller(self):
        acts = BEGIN + (("order", 0, ("split", "", None, 1, "m")), ("round",), ("submit", -1, GET), ("tick", 1))
        world, twin = world_of(2, 1, *acts), world_of(2, 1, *acts)
        for found in (world.packets(), world.shards(0), world.holdings(), world.pieces(), world.history().events(),
                      world.client(-1).accepted(), world.client(-1).pieces()):
            self.assertIs(found.__class__, list)
            self.assertGreater(len(found), 0)
            found.pop()
            found.insert(0, None)
        self.assertEqual(look(world, 2, 1), look(twin, 2, 1))
        for row in world.packets() + world.holdings():
            self.assertIs(row.__class__, tuple)
            self.assertIs(row[-1].__class__, tuple)
        for one in (world, twin):
            one.act(("calm", 3))
        self.assertEqual(look(world, 2, 1), look(twin, 2, 1))

    def test_a_list_of_a_server_that_is_down(self):
        world = world_of(2, 0, ("crash", 0))
        world.shards(0).append(None)
        self.assertEqual((world.shards(0), world.shards(1)), ([], []))

    def test_servers_that_the_world_does_not_have(self):
        world = world_of(3, 1, ("crash", 1))
        self.assertEqual([world.is_up(me) for me in range(3)], [True, False, True])
        for server in NO_INTEGERS + (-1, 3, 4, DIRECTORY):
            self.check_bad(world.is_up, "server", server)
            self.check_bad(world.shards, "server", server)
            self.check_bad(world.content, "server", server, *ALL)

    def test_clients_that_the_world_does_not_have(self):
        for clients in (0, 1, 3):
            world = World(1, clients)
            for name in NO_INTEGERS + (0, 1, -clients - 1, -MOST_CLIENTS - 1, DIRECTORY):
                self.check_bad(world.client, "client", name)
            found = [world.client(name) for name in range(-clients, 0)]
            self.assertEqual(len(set(found)), clients)

    def test_content(self):
        world = world_of(2, 1, *BEGIN, ("order", 0, ("split", "", None, 1, "m")), ("round",),
                         ("order", 0, ("move", "", "m", 2, 1)), ("round",))
        rows = ((-1, 1, DONE),)
        self.assertEqual(world.content(0, "", "m", 2), ((("c", "x"),), rows))
        self.assertEqual(world.content(0, "m", None, 2), ((), rows))
        for server, low, high, epoch in ((0, "", None, 1), (0, "", "m", 1), (0, "", "m", 3), (0, "", "n", 2),
                                         (0, "a", "m", 2), (0, "m", "n", 2), (1, "", "m", 2), (1, "", "m", 3)):
            with self.assertRaises(BadRecord):
                world.content(server, low, high, epoch)
        world.act(("crash", 0))
        with self.assertRaises(BadRecord):
            world.content(0, "", "m", 2)
        self.assertEqual(world.holdings(), [])

    def test_holdings(self):
        world = world_of(3, 2, ("submit", -1, ("put", "p", "1")), ("submit", -2, ("put", "c", "2")), ("calm", 5),
                         ("submit", -2, ("put", "a", "3")), ("calm", 3), ("order", 0, ("split", "", None, 1, "m")),
                         ("round",), ("order", 0, ("move", "m", None, 2, 2)), ("round",))
        self.assertEqual(world.holdings(), [(0, "", "m", 2, "open", (("a", "3"), ("c", "2"))),
                                            (0, "m", None, 2, 2, (("p", "1"),))])
        world.act(("deliver", 0))
        self.assertEqual(world.holdings()[1:], [(0, "m", None, 2, 2, (("p", "1"),)),
                                                (2, "m", None, 3, "open", (("p", "1"),))])
        world.act(("crash", 0))
        self.assertEqual(world.holdings(), [(2, "m", None, 3, "open", (("p", "1"),))])


class LifeTest(WorldTest):
    def one_by_one(self, acts):
        """The same acts, of which each does as little as possible."""
        for act in acts:
            if act[0] in ("tick", "calm"):
                for _ in range(act[1]):
                    yield ("tick", 1)
                    if act[0] == "calm":
                        yield ("round",)
            else:
                yield act

    def test_the_same_acts_lead_to_the_same_world(self):
        for seed in range(12):
            world, servers, clients, acts = live(seed, 400)
            found = look(world, servers, clients)
            self.assertEqual(look(world_of(servers, clients, *acts), servers, clients), found)
            slow = World(servers, clients)
            for act in self.one_by_one(acts):
                if act == ("round",):
                    for _ in range(len(slow.packets())):
                        slow.act(("deliver", 0))
                else:
                    slow.act(act)
            self.assertEqual(look(slow, servers, clients), found)
            lines = [f"world {servers} {clients}"] + [act_line(act) for act in acts]
            self.assertEqual(look(run_schedule("\n".join(lines)), servers, clients), found)

    def test_the_judge_finds_no_fault(self):
        counts = {"crash": 0, "done": 0, "accept": 0, "raised": 0, "closed": 0, "rewritten": 0}
        for seed in range(25):
            world, servers, clients, _ = live(1000 + seed, 50)
            chance = random.Random(seed)
            for part in range(30):
                bring_up(world, servers)
                events, holdings = world.history().events(), world.holdings()
                self.assertEqual(judge(events, holdings), [], (seed, part))
                counts["closed"] += any(row[4] != "open" for row in holdings)
                counts["rewritten"] += any(self.is_rewritten(world, me) for me in range(servers))
                go_on(chance, world, servers, clients, 60)
            for event in events:
                if event[0] != "call":
                    counts[event[0]] += 1
            counts["raised"] += max(row[3] for row in holdings)
            self.calm_down(world, servers, clients)
        self.assertGreater(min(counts.values()), 20, counts)

    def is_rewritten(self, world, me):
        """Tell whether requests that were done are in the log of a server no more."""
        done = [event for event in world.history().events() if event[0] == "done" and event[2] == me]
        return len(done) > sum(record[0] == "did" for record in world._servers[me].records())

    def calm_down(self, world, servers, clients):
        """From a tick on the network is timely, so each request is accepted."""
        bring_up(world, servers)
        for _ in range(len(world.packets())):
            world.act(("lose", 0))
        waiting = [world.client(name).pending() for name in range(-clients, 0)]
        world.act(("calm", 2 * PLAN))
        for name, request in zip(range(-clients, 0), waiting):
            if request:
                self.assertIn(request, [row[:2] for row in world.client(name).accepted()])
        world.act(("calm", MOST_TICKS))
        self.assertEqual([world.client(name).pending() for name in range(-clients, 0)], [None] * clients)
        self.assertEqual([row[4] for row in world.holdings() if row[4] != "open"], [])
        self.assertEqual(judge(world.history().events(), world.holdings()), [])


if __name__ == "__main__":
    unittest.main()

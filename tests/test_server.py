import itertools
import unittest

from boundstone.errors import BadRecord, BadServer, BadText, DiskCrashed
from boundstone.files import Disk
from boundstone.holdings import Holdings
from boundstone.limits import DIRECTORY, MOST_LENGTH, MOST_NUMBER, MOST_SERVERS, MOST_VALUE
from boundstone.log import Log, line_of
from boundstone.server import LOG_LIMIT, Server
from disks import Recorder, state
from parts import PAIRS, ROWS
from values import NO_INTEGERS, NO_STRINGS, NO_TUPLES, Odd

DONE = ("done",)
NONE = ("none",)
FIRST = ("opened", "", None, 1, (), ())

OPEN = ("opened", "b", "d", 3, PAIRS, ROWS)
NEIGHBOUR = ("opened", "d", "f", 5, (("e", "z"),), ())
SHUT = (("opened", "p", "t", 4, (("q", "v"),), ((-5, 2, NONE),)), ("closed", "p", "t", 4, 2))
RECORDS = (OPEN, NEIGHBOUR) + SHUT

PAIRS_OF_X = (("x", "1"), ("y", "2"))
CONTENT = ("content", "x", "z", 6, PAIRS_OF_X, ((-4, 9, DONE),))


def disk_of(records):
    """A disk with a log of these records, all durable."""
    disk = Recorder()
    for record in records:
        disk.append("log", line_of(record))
        disk.sync("log")
    disk.asked.clear()
    return disk


def server_of(records=RECORDS, me=1, count=4):
    """A server with a log of these records, and its disk."""
    disk = disk_of(records)
    return Server(me, count, disk), disk


def look(server):
    """All that a server is."""
    shards = server.shards()
    return (shards, [server.content(*shard[:3]) for shard in shards], Holdings(server.records()).summary())


class ServerTest(unittest.TestCase):
    def check_noted(self, server, disk, before, record):
        """Check that exactly this record was noted after those before it."""
        line = line_of(record)
        self.assertEqual(disk.asked, [("append", "log", line), ("sync", "log")])
        self.assertEqual(disk.pending("log"), 0)
        self.assertEqual(server.records(), list(before) + [record])
        self.assertEqual(Log(disk, "log").records(), server.records())
        holdings = Holdings(server.records())
        self.assertEqual(server.shards(), holdings.shards())
        for shard in holdings.shards():
            self.assertEqual(server.content(*shard[:3]), holdings.content(*shard[:3]))

    def check_call(self, sender, letter, letters, record=None, records=RECORDS):
        """Check what a letter leads to, and the record that is noted."""
        server, disk = server_of(records)
        self.assertEqual(server.receive(sender, letter), letters)
        if record is None:
            self.assertEqual((disk.asked, server.records()), ([], list(records)))
            self.assertEqual(look(server), look(server_of(records)[0]))
        else:
            self.check_noted(server, disk, records, record)
        return server

    def check_nothing(self, sender, letter, records=RECORDS):
        self.check_call(sender, letter, [], None, records)


class NewTest(ServerTest):
    def test_the_limit_of_the_log(self):
        self.assertEqual(LOG_LIMIT, 64)

    def test_bad_numbers(self):
        for count in NO_INTEGERS + (0, -1, MOST_SERVERS + 1, 10 ** 40):
            disk = Recorder()
            with self.assertRaises(BadServer):
                Server(0, count, disk)
            self.assertEqual((disk.asked, disk.names()), ([], []))
        for count in (1, 2, MOST_SERVERS):
            for me in NO_INTEGERS + (-1, count, count + 1, DIRECTORY):
                disk = Recorder()
                with self.assertRaises(BadServer):
                    Server(me, count, disk)
                self.assertEqual((disk.asked, disk.names()), ([], []))

    def test_the_first_record(self):
        for count in (1, 2, MOST_SERVERS):
            disk = Recorder()
            server = Server(0, count, disk)
            self.check_noted(server, disk, [], FIRST)
            self.assertEqual(server.shards(), [("", None, 1, "open")])
            self.assertEqual(server.content("", None, 1), ((), ()))
            for me in range(1, count):
                disk = Recorder()
                server = Server(me, count, disk)
                self.assertEqual((server.records(), server.shards(), disk.asked, disk.names()), ([], [], [], []))

    def test_a_server_that_is_made_again(self):
        disk = Recorder()
        server = Server(0, 2, disk)
        server.receive(-1, ("ask", 1, ("put", "c", "x")))
        server.receive(DIRECTORY, ("split", "", None, 1, "m"))
        server.receive(DIRECTORY, ("move", "m", None, 2, 1))
        disk.asked.clear()
        again = Server(0, 2, disk)
        self.assertEqual(disk.asked, [])
        self.assertEqual(look(again), look(server))
        self.assertEqual(again.records(), server.records())
        self.assertEqual(again.shards(), [("", "m", 2, "open"), ("m", None, 2, 1)])
        self.assertEqual(again.receive(-1, ("ask", 1, ("get", "c"))), [(-1, ("answer", 1, DONE))])

    def test_an_empty_log(self):
        for text in ("", "1", "36 ('opened'"):
            disk = Recorder()
            disk.append("log", text)
            disk.asked.clear()
            server = Server(0, 2, disk)
            self.assertEqual(server.records(), [FIRST])
            self.assertEqual(state(disk), [("log", line_of(FIRST), 0)])
            disk = Recorder()
            disk.append("log", text)
            server = Server(1, 2, disk)
            self.assertEqual((server.records(), disk.read("log")), ([], ""))

    def test_server_0_that_has_let_everything_go(self):
        records = (FIRST, ("closed", "", None, 1, 1), ("gone", "", None, 1))
        server, disk = server_of(records, 0, 2)
        self.assertEqual((disk.asked, server.shards(), server.records()), ([], [], list(records)))

    def test_lists_may_be_changed_by_their_caller(self):
        server, _ = server_of()
        before = look(server)
        for function in (server.shards, server.records, server.tick):
            found = function()
            self.assertIs(found.__class__, list)
            found.append(None)
            found[0] = None
            found.clear()
        self.assertEqual(look(server), before)
        self.assertEqual(server.records(), list(RECORDS))

    def test_content(self):
        server, _ = server_of()
        self.assertEqual(server.content("b", "d", 3), (PAIRS, ROWS))
        self.assertEqual(server.content("p", "t", 4), ((("q", "v"),), ((-5, 2, NONE),)))
        for shard in (("b", "d", 4), ("b", "e", 3), ("p", "t", 5), ("", None, 1)):
            with self.assertRaises(BadRecord):
                server.content(*shard)


class AskTest(ServerTest):
    def test_new(self):
        for client, number, op, answer in (
            (-1, 8, ("get", "b"), ("value", "x")), (-3, 1, ("get", "bz"), NONE), (-3, 1, ("put", "bz", "n"), DONE),
            (-9, MOST_NUMBER, ("drop", "c"), DONE), (-100, 5, ("swap", "b", "y", "n"), ("other", "x")),
            (-1, 9, ("page", "b", 2), ("page", (("b", "x"), ("ba", "")), "c")),
            (-1, 9, ("page", "bb", 2), ("page", (("c", "it's"),), "d")),
        ):
            server = self.check_call(client, ("ask", number, op), [(client, ("answer", number, answer))],
                                     ("did", "b", 3, client, number, op))
            self.assertIn((client, number, answer), server.content("b", "d", 3)[1])
        self.check_call(-1, ("ask", 1, ("get", "e")), [(-1, ("answer", 1, ("value", "z")))],
                        ("did", "d", 5, -1, 1, ("get", "e")))

    def test_again(self):
        for client, number, answer in ROWS:
            for op in (("get", "b"), ("put", "b", "n"), ("drop", "c"), ("page", "b", 1)):
                self.check_call(client, ("ask", number, op), [(client, ("answer", number, answer))])

    def test_stale(self):
        for client, number in ((-1, 6), (-1, 1), (-2, 1), (-2, MOST_NUMBER - 1)):
            self.check_nothing(client, ("ask", number, ("put", "b", "n")))

    def test_elsewhere(self):
        for op in (("get", "a"), ("get", "azzzzzzz"), ("put", "f", "x"), ("drop", "z"), ("page", "", 3),
                   ("page", "a", 9), ("get", "q"), ("page", "p", 1)):
            for client, number in ((-1, 8), (-1, 7), (-1, 6), (-5, 2), (-30, 1)):
                self.check_call(client, ("ask", number, op), [(client, ("elsewhere", number))])

    def test_one_after_the_other(self):
        server, _ = server_of([FIRST], 0, 1)
        for number, op, answer in (
            (1, ("put", "a", "x"), DONE), (2, ("get", "a"), ("value", "x")), (3, ("swap", "a", "x", "y"), DONE),
            (3, ("get", "a"), DONE), (5, ("page", "", 1), ("page", (("a", "y"),), None)), (9, ("drop", "a"), DONE),
            (10, ("drop", "a"), NONE), (10, ("put", "a", "z"), NONE),
        ):
            self.assertEqual(server.receive(-7, ("ask", number, op)), [(-7, ("answer", number, answer))])
        self.assertEqual(server.receive(-7, ("ask", 9, ("get", "a"))), [])
        self.assertEqual(len(server.records()), 7)


class MoveTest(ServerTest):
    def test_to_another_server(self):
        for target in (0, 2, 3):
            letters = [(target, ("content", "b", "d", 4, PAIRS, ROWS))]
            server = self.check_call(DIRECTORY, ("move", "b", "d", 3, target), letters,
                                     ("closed", "b", "d", 3, target))
            self.assertEqual(server.shards()[0], ("b", "d", 3, target))
            self.assertEqual(server.receive(-1, ("ask", 8, ("get", "b"))), [(-1, ("elsewhere", 8))])
            self.assertEqual(server.receive(-1, ("ask", 7, ("get", "b"))), [(-1, ("elsewhere", 7))])
            self.assertEqual(server.receive(DIRECTORY, ("move", "b", "d", 3, 0)), [])
            self.assertEqual(server.content("b", "d", 3), (PAIRS, ROWS))

    def test_to_itself_and_to_none(self):
        for target in (1, 4, -1, True, None):
            self.check_nothing(DIRECTORY, ("move", "b", "d", 3, target))

    def test_a_shard_that_is_not_held_open(self):
        for shard in (("b", "d", 2), ("b", "d", 4), ("b", "c", 3), ("b", None, 3), ("b", "f", 3), ("a", "d", 3),
                      ("p", "t", 4), ("x", "z", 1)):
            self.check_nothing(DIRECTORY, ("move",) + shard + (2,))

    def test_the_greatest_epoch(self):
        last = ("opened", "b", "d", MOST_NUMBER, (), ())
        self.check_nothing(DIRECTORY, ("move", "b", "d", MOST_NUMBER, 2), (last,))
        before = ("opened", "b", "d", MOST_NUMBER - 1, (), ())
        self.check_call(DIRECTORY, ("move", "b", "d", MOST_NUMBER - 1, 2),
                        [(2, ("content", "b", "d", MOST_NUMBER, (), ()))],
                        ("closed", "b", "d", MOST_NUMBER - 1, 2), (before,))


class SplitTest(ServerTest):
    def test_split(self):
        for at in ("ba", "c", "czzzzzzz"):
            letter = ("split", "b", "d", 3, at)
            server = self.check_call(DIRECTORY, letter, [], letter)
            self.assertEqual(server.shards()[:2], [("b", at, 4, "open"), (at, "d", 4, "open")])
            self.assertEqual(server.receive(DIRECTORY, letter), [])
            self.assertEqual(len(server.records()), len(RECORDS) + 1)

    def test_splits_that_are_not_possible(self):
        for shard, at in ((("b", "d", 2), "c"), (("b", "d", 4), "c"), (("b", "e", 3), "c"), (("b", "d", 3), "b"),
                          (("b", "d", 3), "d"), (("b", "d", 3), "a"), (("p", "t", 4), "q"), (("x", "z", 1), "y"),
                          (("b", "d", 3), ""), (("b", "d", 3), None)):
            self.check_nothing(DIRECTORY, ("split",) + shard + (at,))
        last = ("opened", "b", "d", MOST_NUMBER, (), ())
        self.check_nothing(DIRECTORY, ("split", "b", "d", MOST_NUMBER, "c"), (last,))

    def test_requests_after_a_split(self):
        server, _ = server_of()
        server.receive(DIRECTORY, ("split", "b", "d", 3, "c"))
        self.assertEqual(server.receive(-1, ("ask", 7, ("get", "c"))), [(-1, ("answer", 7, ("value", "v")))])
        self.assertEqual(server.receive(-1, ("ask", 8, ("page", "b", 9))),
                         [(-1, ("answer", 8, ("page", (("b", "x"), ("ba", "")), "c")))])
        self.assertEqual(server.records()[-1], ("did", "b", 4, -1, 8, ("page", "b", 9)))


class JoinTest(ServerTest):
    def test_join(self):
        letter = ("join", "b", "d", 3, "f", 5)
        server = self.check_call(DIRECTORY, letter, [], letter)
        self.assertEqual(server.shards(), [("b", "f", 6, "open"), ("p", "t", 4, 2)])
        self.assertEqual(server.content("b", "f", 6), (PAIRS + (("e", "z"),), ROWS))
        self.assertEqual(server.receive(DIRECTORY, letter), [])
        self.assertEqual(len(server.records()), len(RECORDS) + 1)

    def test_joins_that_are_not_possible(self):
        for parts in (("b", "d", 2, "f", 5), ("b", "d", 3, "f", 4), ("b", "d", 3, "g", 5), ("b", "c", 3, "f", 5),
                      ("d", "f", 5, "p", 1), ("f", "p", 1, "t", 4), ("b", "d", 3, "d", 3), ("d", "b", 5, "d", 3)):
            self.check_nothing(DIRECTORY, ("join",) + parts)
        last = ("opened", "a", "b", MOST_NUMBER, (), ())
        self.check_nothing(DIRECTORY, ("join", "a", "b", MOST_NUMBER, "d", 3), (OPEN, last))


class ContentTest(ServerTest):
    def test_opened(self):
        for sender in (0, 2, 3):
            server = self.check_call(sender, CONTENT, [(sender, ("receipt", "x", "z", 6))], ("opened",) + CONTENT[1:])
            self.assertEqual(server.shards()[-1], ("x", "z", 6, "open"))
            self.assertEqual(server.receive(-4, ("ask", 9, ("get", "x"))), [(-4, ("answer", 9, DONE))])
            self.assertEqual(server.receive(-4, ("ask", 10, ("get", "x"))), [(-4, ("answer", 10, ("value", "1")))])

    def test_a_second_time(self):
        server, disk = server_of()
        server.receive(2, CONTENT)
        server.receive(-4, ("ask", 10, ("put", "x", "n")))
        before = look(server)
        disk.asked.clear()
        for sender in (0, 2):
            self.assertEqual(server.receive(sender, CONTENT), [(sender, ("receipt", "x", "z", 6))])
        self.assertEqual((look(server), disk.asked), (before, []))

    def test_already_known(self):
        for shard in (("b", "d", 3), ("b", "d", 1), ("c", "d", 3), ("b", "da", 5), ("a", "ba", 3), ("", None, 5),
                      ("p", "t", 4), ("q", "r", 4), ("o", "q", 2), ("b", "f", 4)):
            letter = ("content",) + shard + ((), ())
            self.check_call(2, letter, [(2, ("receipt",) + shard)])

    def test_a_shard_that_comes_back(self):
        records = (OPEN, ("closed", "b", "d", 3, 2))
        self.check_call(2, ("content", "b", "d", 3, PAIRS, ROWS), [(2, ("receipt", "b", "d", 3))], None, records)
        content = ("content", "b", "d", 5, PAIRS[1:], ROWS)
        server = self.check_call(2, content, [(2, ("receipt", "b", "d", 5))], ("opened",) + content[1:], records)
        self.assertEqual(server.shards(), [("b", "d", 3, 2), ("b", "d", 5, "open")])

    def test_an_open_shard_that_overlaps(self):
        for shard in (("b", "d", 4), ("c", "d", 9), ("a", "ba", 4), ("e", "g", 6), ("", None, 6), ("b", "f", 6)):
            self.check_nothing(2, ("content",) + shard + ((), ()))


class ReceiptTest(ServerTest):
    def test_the_right_sender(self):
        server = self.check_call(2, ("receipt", "p", "t", 5), [], ("gone", "p", "t", 4))
        self.assertEqual(server.shards(), [("b", "d", 3, "open"), ("d", "f", 5, "open")])
        self.assertEqual(server.receive(2, ("receipt", "p", "t", 5)), [])
        self.assertEqual(len(server.records()), len(RECORDS) + 1)
        with self.assertRaises(BadRecord):
            server.content("p", "t", 4)

    def test_other_senders(self):
        for sender in (0, 1, 3, 4, -1, DIRECTORY, True, None):
            self.check_nothing(sender, ("receipt", "p", "t", 5))

    def test_receipts_that_fit_no_closed_shard(self):
        for shard in (("p", "t", 4), ("p", "t", 6), ("p", "t", 1), ("p", "s", 5), ("q", "t", 5), ("p", None, 5),
                      ("b", "d", 4), ("b", "d", 3), ("x", "z", 1)):
            self.check_nothing(2, ("receipt",) + shard)

    def test_one_of_two_closed_shards_of_the_same_range(self):
        records = (OPEN, ("closed", "b", "d", 3, 2), ("opened", "b", "d", 5, (), ()), ("closed", "b", "d", 5, 0))
        self.check_call(2, ("receipt", "b", "d", 4), [], ("gone", "b", "d", 3), records)
        self.check_call(0, ("receipt", "b", "d", 6), [], ("gone", "b", "d", 5), records)
        self.check_nothing(0, ("receipt", "b", "d", 4), records)
        self.check_nothing(2, ("receipt", "b", "d", 6), records)


class NoEffectTest(ServerTest):
    # A letter that has an effect, with the senders that may send such a letter to server 1.
    LETTERS = (
        (range(-100, 0), -1, ("ask", 8, ("put", "b", "n"))),
        (range(DIRECTORY, DIRECTORY + 1), DIRECTORY, ("move", "b", "d", 3, 2)),
        (range(DIRECTORY, DIRECTORY + 1), DIRECTORY, ("split", "b", "d", 3, "c")),
        (range(DIRECTORY, DIRECTORY + 1), DIRECTORY, ("join", "b", "d", 3, "f", 5)),
        (range(4), 2, CONTENT),
        (range(4), 2, ("receipt", "p", "t", 5)),
    )

    def test_letters_from_others(self):
        for senders, _, letter in self.LETTERS:
            for sender in (-101, -100, -1, 0, 2, 3, 4, 20, 999, DIRECTORY, 1001):
                if sender not in senders:
                    self.check_nothing(sender, letter)
            for sender in NO_INTEGERS:
                self.check_nothing(sender, letter)

    def test_letters_from_the_server_itself(self):
        for _, _, letter in self.LETTERS:
            self.check_nothing(1, letter)
        self.check_nothing(1, ("content", "b", "d", 3, PAIRS, ROWS))
        self.check_nothing(1, ("receipt", "p", "t", 5), SHUT[:1] + (("closed", "p", "t", 4, 1),))

    def test_letters_of_which_one_part_is_odd(self):
        for _, sender, letter in self.LETTERS:
            for at in range(len(letter)):
                self.check_nothing(sender, letter[:at] + letter[at + 1:])
                for part in (True, 1.0, b"b", [], ["b"], {}, Odd(), -5, "B", MOST_NUMBER + 1, ((),)):
                    self.check_nothing(sender, letter[:at] + (part,) + letter[at + 1:])
            self.check_nothing(sender, letter + (1,))
            self.check_nothing(sender, list(letter))

    def test_values_that_are_no_letters(self):
        server, disk = server_of()
        for value in NO_TUPLES + NO_STRINGS + ((), ("tick",), ("opened", "x", "z", 6, (), ())):
            for sender in (-1, 0, 1, 2, DIRECTORY):
                self.assertEqual(server.receive(sender, value), [])
        self.assertEqual((disk.asked, look(server)), ([], look(server_of()[0])))

    def test_letters_to_others(self):
        for letter in (("where", "b"), ("answer", 1, DONE), ("elsewhere", 1), ("there", "b", "d", 3, 2),
                       ("have", "b", "d", 3, 2, "")):
            for sender in (-1, 0, 1, 2, DIRECTORY):
                self.check_nothing(sender, letter)

    def test_a_new_list_each_time(self):
        server, _ = server_of()
        found = server.receive(-1, ("where", "b"))
        found.append(None)
        self.assertEqual(server.receive(-1, ("where", "b")), [])


class TickTest(ServerTest):
    def test_nothing_is_held(self):
        server, disk = server_of(())
        self.assertEqual((server.tick(), disk.asked), ([], []))

    def test_the_order_of_the_letters(self):
        records = [("opened", "t", None, 9, (), ()), ("closed", "t", None, 9, 0),
                   ("opened", "m", "p", 8, PAIRS[:0], ROWS), ("closed", "m", "p", 8, 3),
                   ("opened", "b", "d", 3, PAIRS, ROWS), ("opened", "m", "o", 9, (), ()), ("closed", "m", "o", 9, 2),
                   ("opened", "m", "p", 10, (("n", "y"),), ()), ("opened", "", "a", 7, (), ()),
                   ("opened", "d", "f", 2, (("e", "z"),), ()), ("opened", "a", "b", 1, (), ()),
                   ("closed", "a", "b", 1, 2)]
        server, disk = server_of(records)
        letters = [
            (DIRECTORY, ("have", "", "a", 7, 0, "")),
            (DIRECTORY, ("have", "b", "d", 3, 3, "ba")),
            (DIRECTORY, ("have", "d", "f", 2, 1, "")),
            (DIRECTORY, ("have", "m", "p", 10, 1, "")),
            (2, ("content", "a", "b", 2, (), ())),
            (3, ("content", "m", "p", 9, (), ROWS)),
            (2, ("content", "m", "o", 10, (), ())),
            (0, ("content", "t", None, 10, (), ())),
        ]
        for _ in range(3):
            self.assertEqual(server.tick(), letters)
        self.assertEqual((disk.asked, server.records()), ([], records))

    def test_size_and_middle(self):
        keys = ("b", "c", "d", "e")
        for size, middle in enumerate(("", "", "c", "c", "d")):
            items = tuple((key, "x") for key in keys[:size])
            server, _ = server_of([("opened", "", None, 1, items, ())])
            self.assertEqual(server.tick(), [(DIRECTORY, ("have", "", None, 1, size, middle))])

    def test_the_content_of_a_closed_shard_stays_as_it_was(self):
        server, _ = server_of((OPEN,))
        letters = server.receive(DIRECTORY, ("move", "b", "d", 3, 2))
        for letter in (("ask", 8, ("put", "b", "n")), ("ask", 9, ("drop", "c"))):
            server.receive(-1, letter)
        self.assertEqual(server.tick(), letters)
        self.assertEqual(letters, [(2, ("content", "b", "d", 4, PAIRS, ROWS))])

    def long(self, many):
        """A server 0 with a log of so many records."""
        disk = Recorder()
        server = Server(0, 2, disk)
        for number in range(1, many):
            server.receive(-1, ("ask", number, ("put", "abcdefgh"[number % 8], str(number))))
        self.assertEqual(len(server.records()), many)
        disk.asked.clear()
        return server, disk

    def test_a_log_of_64_records(self):
        server, disk = self.long(64)
        records = server.records()
        server.tick()
        self.assertEqual((disk.asked, server.records()), ([], records))

    def test_a_log_of_65_records(self):
        server, disk = self.long(65)
        before = look(server)
        self.assertEqual(server.tick(), [(DIRECTORY, ("have", "", None, 1, 8, "e"))])
        summary = [("opened", "", None, 1) + before[1][0], ("had", "", None, 1)]
        self.assertEqual(before[2], summary)
        lines = [line_of(record) for record in summary]
        self.assertEqual(disk.asked, [("append", "log.new", lines[0]), ("append", "log.new", lines[1]),
                                      ("sync", "log.new"), ("rename", "log.new", "log")])
        self.assertEqual(state(disk), [("log", lines[0] + lines[1], 0)])
        self.assertEqual((server.records(), look(server)), (summary, before))
        self.assertEqual(look(Server(0, 2, disk)), before)
        disk.asked.clear()
        server.tick()
        self.assertEqual(disk.asked, [])
        self.assertEqual(server.receive(-1, ("ask", 64, ("get", "a"))), [(-1, ("answer", 64, DONE))])
        self.assertEqual(server.receive(-1, ("ask", 65, ("get", "a"))), [(-1, ("answer", 65, ("value", "64")))])
        self.assertEqual(server.records(), summary + [("did", "", 1, -1, 65, ("get", "a"))])

    def test_a_call_other_than_a_tick_does_not_shorten_the_log(self):
        server, _ = self.long(80)
        server.receive(DIRECTORY, ("split", "", None, 1, "c"))
        self.assertEqual(len(server.records()), 81)

    def test_a_summary_that_is_long_itself(self):
        bounds = [one + two for one in "abcdefgh" for two in "abcdefghi"]
        records = [("had", low, high, at % 3 + 1) for at, (low, high) in enumerate(zip(bounds, bounds[1:]))]
        self.assertGreater(len(records), LOG_LIMIT)
        server, disk = server_of(records)
        for many in (1, 2):
            self.assertEqual((server.tick(), server.records()), ([], records))
            self.assertEqual(len(disk.asked), many * (len(records) + 2))


class TooLongTest(ServerTest):
    def test_a_shard_whose_record_is_too_long(self):
        keys = ["".join(parts) for parts in itertools.product("abcdefghijklmnop", repeat=3)]
        items = tuple((key, "v" * MOST_VALUE) for key in sorted(keys))
        self.assertGreater(len(items) * MOST_VALUE, MOST_LENGTH * 4 // 5)
        server, disk = server_of(())
        before = look(server)
        with self.assertRaises(BadText):
            server.receive(2, ("content", "", None, 3, items, ()))
        self.assertEqual((disk.asked, look(server)), ([], before))


# A call of each kind, with the records before it.
CALLS = (
    (RECORDS, lambda server: server.receive(-1, ("ask", 8, ("put", "b", "n")))),
    (RECORDS, lambda server: server.receive(DIRECTORY, ("move", "b", "d", 3, 2))),
    (RECORDS, lambda server: server.receive(DIRECTORY, ("split", "b", "d", 3, "c"))),
    (RECORDS, lambda server: server.receive(DIRECTORY, ("join", "b", "d", 3, "f", 5))),
    (RECORDS, lambda server: server.receive(2, CONTENT)),
    (RECORDS, lambda server: server.receive(2, ("receipt", "p", "t", 5))),
    (RECORDS + tuple(("had", "x", "z", 1) for _ in range(61)), lambda server: server.tick()),
)


class CrashTest(ServerTest):
    def check_crash(self, records, call, left, keep):
        """Crash at an operation of a call, and return what a new server holds, or None without a crash."""
        server, disk = server_of(records)
        disk.arm(left)
        try:
            call(server)
        except DiskCrashed:
            disk.crash([keep, keep])
            again = Server(1, 4, disk)
            self.assertEqual(disk.pending("log"), 0)
            return look(again)
        return None

    def test_every_crash(self):
        for records, call in CALLS:
            server, disk = server_of(records)
            before = look(server)
            call(server)
            after = look(server)
            operations = len(disk.asked)
            self.assertGreaterEqual(operations, 2)
            for left in range(operations):
                length = max(len(line_of(record)) for record in server.records())
                for keep in (0, 1, 2, length // 2, length - 1, length, 10 ** 6):
                    found = self.check_crash(records, call, left, keep)
                    self.assertIn(found, (before, after))
            self.assertIsNone(self.check_crash(records, call, operations, 0))
            self.assertEqual(self.check_crash(records, call, 0, 10 ** 6), before)
            if operations == 2:
                self.assertEqual(self.check_crash(records, call, 1, 0), before)
                self.assertEqual(self.check_crash(records, call, 1, 10 ** 6), after)

    def test_crashes_while_a_server_is_created(self):
        for left in range(2):
            for keep in range(len(line_of(FIRST)) + 2):
                disk = Disk()
                disk.arm(left)
                with self.assertRaises(DiskCrashed):
                    Server(0, 2, disk)
                disk.crash([keep])
                server = Server(0, 2, disk)
                self.assertEqual(server.records(), [FIRST])
                self.assertEqual(state(disk), [("log", line_of(FIRST), 0)])

    def test_crashes_while_a_server_is_created_again(self):
        for left in range(len(RECORDS) + 2):
            for keep in (0, 1, 20, 10 ** 6):
                disk = disk_of(RECORDS)
                disk.append("log", "29 ('did',")
                disk.append("log.new", "1")
                disk.arm(left)
                with self.assertRaises(DiskCrashed):
                    Server(1, 4, disk)
                disk.crash([keep, keep])
                self.assertEqual(look(Server(1, 4, disk)), look(server_of()[0]))

    def test_a_request_that_was_answered_is_answered_again(self):
        disk = Disk()
        server = Server(0, 2, disk)
        for number in range(1, 90):
            op = ("put", "abc"[number % 3], str(number))
            self.assertEqual(server.receive(-1, ("ask", number, op)), [(-1, ("answer", number, DONE))])
            if number % 7 == 0:
                server.tick()
            disk.crash([number % 5, number % 5])
            server = Server(0, 2, disk)
            self.assertEqual(server.receive(-1, ("ask", number, ("get", "a"))), [(-1, ("answer", number, DONE))])
        self.assertEqual(server.content("", None, 1)[0], (("a", "87"), ("b", "88"), ("c", "89")))


if __name__ == "__main__":
    unittest.main()

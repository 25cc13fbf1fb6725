import unittest

from boundstone.client import Client
from boundstone.errors import BadOperation, BadServer
from boundstone.limits import DIRECTORY, MOST_CLIENTS, MOST_NUMBER, MOST_SERVERS
from parts import COUNT, FORMS, SENDERS, WRONG, changed
from values import NO_INTEGERS, NO_TUPLES

ME = -2
DONE = ("done",)
NONE = ("none",)

OPERATIONS = (("get", "c"), ("put", "c", "x"), ("drop", "c"), ("swap", "c", "x", "y"), ("page", "c", 5))
NO_OPERATIONS = NO_TUPLES + ((), ("get",), ("get", ""), ("done",), ("page", "a", 51), ("put", "a", 1),
                             ("put", "a", "\n"), ["get", "a"], ("get", "a", "b"), ("ask", 1, ("get", "a")))

GET = ("get", "c")
ASK = [(1, ("ask", 1, GET))]
WHERE = [(DIRECTORY, ("where", "c"))]
THERE = ("there", "b", "m", 4, 1)
PIECE = ("b", "m", ("b", "m", 4, 1, 0, ""))


def look(client):
    return (client.pending(), client.accepted(), client.pieces())


class ClientTest(unittest.TestCase):
    def client(self, *letters, ops=(GET,)):
        """A client with these operations that got these letters of the directory."""
        client = Client(ME, COUNT)
        for op in ops:
            client.submit(op)
        for letter in letters:
            client.receive(DIRECTORY, letter)
        return client

    def check_nothing(self, sender, letter, client=None):
        client = client or self.client(THERE, ops=(GET, ("get", "d")))
        before = look(client)
        found = client.receive(sender, letter)
        self.assertEqual(found, [])
        self.assertIs(found.__class__, list)
        self.assertEqual(look(client), before)
        self.assertEqual(client.tick(), [(1, ("ask",) + before[0])] if before[0] else [])


class NewTest(ClientTest):
    def test_bad_names(self):
        for name in NO_INTEGERS + (0, 1, -MOST_CLIENTS - 1, -DIRECTORY, DIRECTORY, 10 ** 40, "a", "-1"):
            with self.assertRaises(BadServer):
                Client(name, COUNT)

    def test_bad_counts(self):
        for count in NO_INTEGERS + (0, -1, MOST_SERVERS + 1, DIRECTORY, 10 ** 40):
            with self.assertRaises(BadServer):
                Client(-1, count)

    def test_all_names_and_counts(self):
        for name in range(-MOST_CLIENTS, 0):
            self.assertEqual(look(Client(name, COUNT)), (None, [], []))
        for count in range(1, MOST_SERVERS + 1):
            client = Client(-1, count)
            client.submit(GET)
            self.assertEqual(client.receive(DIRECTORY, ("there", "", None, 1, count)), [])
            self.assertEqual(client.receive(DIRECTORY, ("there", "", None, 1, count - 1)), [(count - 1, ASK[0][1])])

    def test_clients_are_independent(self):
        one, other = Client(-1, COUNT), Client(-1, COUNT)
        one.submit(GET)
        one.receive(DIRECTORY, THERE)
        self.assertEqual(look(other), (None, [], []))

    def test_the_example_of_the_interface(self):
        client = Client(-1, 2)
        self.assertEqual(client.submit(("get", "c")), [(1000, ("where", "c"))])
        self.assertEqual(client.receive(1000, ("there", "b", "m", 4, 1)), [(1, ("ask", 1, ("get", "c")))])
        self.assertEqual(client.receive(1, ("elsewhere", 1)), [])
        self.assertEqual(client.tick(), [(1000, ("where", "c"))])


class SubmitTest(ClientTest):
    def test_each_kind_of_operation(self):
        for op in OPERATIONS + (("page", "", 1),):
            client = Client(ME, COUNT)
            self.assertEqual(client.submit(op), [(DIRECTORY, ("where", op[1]))])
            self.assertEqual(look(client), ((1, op), [], []))
            self.assertEqual(client.receive(DIRECTORY, ("there", "", None, 4, 3)), [(3, ("ask", 1, op))])

    def test_with_a_route(self):
        for op in OPERATIONS:
            client = self.client(THERE, ops=())
            self.assertEqual(client.submit(op), [(1, ("ask", 1, op))])
            self.assertEqual(look(client), ((1, op), [], [PIECE]))
        for key in ("a", "m", "z"):
            client = self.client(THERE, ops=())
            self.assertEqual(client.submit(("get", key)), [(DIRECTORY, ("where", key))])
        client = self.client(("there", "", "b", 4, 0), ops=())
        self.assertEqual(client.submit(("page", "", 9)), [(0, ("ask", 1, ("page", "", 9)))])

    def test_while_a_request_is_pending(self):
        client = self.client()
        for op in OPERATIONS:
            self.assertEqual(client.submit(op), [])
            self.assertEqual(look(client), ((1, GET), [], []))
        client.receive(DIRECTORY, THERE)
        ops = (GET,) + OPERATIONS
        for number, op in enumerate(ops, start=1):
            self.assertEqual(client.pending(), (number, op))
            expected = [(1, ("ask", number + 1, ops[number]))] if number < len(ops) else []
            self.assertEqual(client.receive(1, ("answer", number, DONE)), expected)
        self.assertEqual(client.pending(), None)
        self.assertEqual(client.accepted(), [(number, op, DONE) for number, op in enumerate(ops, start=1)])

    def test_when_all_is_answered(self):
        client = self.client(THERE)
        for number in range(1, 5):
            self.assertEqual(client.receive(0, ("answer", number, NONE)), [])
            self.assertEqual(client.submit(GET), [(1, ("ask", number + 1, GET))])
            self.assertEqual(client.pending(), (number + 1, GET))

    def test_values_that_are_no_operations(self):
        for op in NO_OPERATIONS:
            for ops in ((), (GET,), (GET, ("get", "d"))):
                client = self.client(THERE, ops=ops)
                before = look(client)
                with self.assertRaises(BadOperation):
                    client.submit(op)
                self.assertEqual(look(client), before)
                client.submit(("drop", "f"))
                for number, good in enumerate(ops + (("drop", "f"),), start=1):
                    self.assertEqual(client.pending(), (number, good))
                    client.receive(1, ("answer", number, DONE))
                self.assertEqual(client.pending(), None)


class TickTest(ClientTest):
    def test_nothing_is_pending(self):
        client = Client(ME, COUNT)
        self.assertEqual(client.tick(), [])
        client = self.client(THERE, ops=())
        self.assertEqual(client.tick(), [])
        client.submit(GET)
        client.receive(1, ("answer", 1, NONE))
        self.assertEqual(client.tick(), [])

    def test_without_a_route(self):
        client = self.client()
        for _ in range(3):
            self.assertEqual(client.tick(), WHERE)
        client = self.client(("there", "", "c", 4, 0), ("there", "ca", None, 4, 0))
        self.assertEqual(client.tick(), WHERE)

    def test_with_a_route(self):
        client = self.client(THERE)
        for _ in range(3):
            self.assertEqual(client.tick(), ASK)
        self.assertEqual(look(client), ((1, GET), [], [PIECE]))

    def test_it_goes_on_until_the_answer(self):
        client = self.client(THERE, ops=(GET, ("put", "z", "x")))
        self.assertEqual(client.tick(), ASK)
        self.assertEqual(client.receive(1, ("answer", 1, NONE)), [(DIRECTORY, ("where", "z"))])
        self.assertEqual(client.tick(), [(DIRECTORY, ("where", "z"))])
        client.receive(3, ("answer", 2, DONE))
        self.assertEqual(client.tick(), [])

    def test_a_new_list_each_time(self):
        client = self.client()
        client.tick().append(None)
        self.assertEqual(client.tick(), WHERE)


class ThereTest(ClientTest):
    def test_ranges_that_contain_the_place(self):
        for low, high in (("", None), ("c", None), ("c", "ca"), ("", "ca"), ("bzzzzzzz", "d")):
            for server in (0, 1, COUNT - 1):
                client = self.client()
                letter = ("there", low, high, 4, server)
                self.assertEqual(client.receive(DIRECTORY, letter), [(server, ASK[0][1])])
                self.assertEqual(look(client), ((1, GET), [], [(low, high, (low, high, 4, server, 0, ""))]))

    def test_ranges_that_do_not(self):
        for low, high in (("", "c"), ("ca", None), ("a", "b"), ("d", "f"), ("", "a")):
            client = self.client()
            self.assertEqual(client.receive(DIRECTORY, ("there", low, high, 4, 1)), [])
            self.assertEqual(look(client), ((1, GET), [], [(low, high, (low, high, 4, 1, 0, ""))]))
            self.assertEqual(client.tick(), WHERE)

    def test_the_empty_place(self):
        client = self.client(ops=(("page", "", 3),))
        self.assertEqual(client.receive(DIRECTORY, ("there", "a", None, 4, 1)), [])
        self.assertEqual(client.receive(DIRECTORY, ("there", "", "a", 4, 1)), [(1, ("ask", 1, ("page", "", 3)))])

    def test_only_the_pending_request_counts(self):
        client = self.client(ops=(GET, ("get", "z")))
        self.assertEqual(client.receive(DIRECTORY, ("there", "m", None, 4, 1)), [])
        self.assertEqual(client.receive(DIRECTORY, ("there", "b", "d", 4, 2)), [(2, ASK[0][1])])
        self.assertEqual(client.receive(2, ("answer", 1, NONE)), [(1, ("ask", 2, ("get", "z")))])
        self.assertEqual(client.receive(DIRECTORY, ("there", "b", "d", 4, 2)), [])

    def test_without_a_pending_request(self):
        client = self.client(ops=())
        self.assertEqual(client.receive(DIRECTORY, THERE), [])
        self.assertEqual(look(client), (None, [], [PIECE]))
        self.assertEqual(client.submit(GET), ASK)

    def test_older_equal_and_newer_epochs(self):
        client = self.client(THERE)
        # The report does not count, but its range has the place, so what is known better is asked.
        self.assertEqual(client.receive(DIRECTORY, ("there", "", None, 3, 2)), ASK)
        self.assertEqual(client.pieces(), [("", "b", ("", None, 3, 2, 0, "")), PIECE,
                                           ("m", None, ("", None, 3, 2, 0, ""))])
        self.assertEqual(client.receive(DIRECTORY, ("there", "b", "m", 4, 3)), [(3, ASK[0][1])])
        self.assertEqual(client.pieces()[1], ("b", "m", ("b", "m", 4, 3, 0, "")))
        self.assertEqual(client.receive(DIRECTORY, ("there", "c", "d", 5, 0)), [(0, ASK[0][1])])
        self.assertEqual(client.pieces()[2], ("c", "d", ("c", "d", 5, 0, 0, "")))
        self.assertEqual(client.tick(), [(0, ASK[0][1])])

    def test_of_others(self):
        for sender in NO_INTEGERS + (-1, ME, 0, 1, COUNT - 1, COUNT, DIRECTORY - 1, -DIRECTORY):
            self.check_nothing(sender, ("there", "b", "m", 5, 2))


class ElsewhereTest(ClientTest):
    def test_from_the_server_of_the_route(self):
        client = self.client(("there", "m", None, 3, 1), ("there", "", "b", 3, 1), THERE)
        self.assertEqual(client.receive(1, ("elsewhere", 1)), [])
        rest = [("", "b", ("", "b", 3, 1, 0, "")), ("m", None, ("m", None, 3, 1, 0, ""))]
        self.assertEqual(look(client), ((1, GET), [], rest))
        self.assertEqual(client.tick(), WHERE)

    def test_only_the_piece_is_removed(self):
        client = self.client(THERE, ("there", "d", "f", 5, 2))
        client.receive(1, ("elsewhere", 1))
        self.assertEqual(client.pieces(), [("d", "f", ("d", "f", 5, 2, 0, "")), ("f", "m", PIECE[2])])

    def test_from_another_server(self):
        for server in (0, 2, COUNT - 1):
            self.check_nothing(server, ("elsewhere", 1))

    def test_after_the_route_has_changed(self):
        client = self.client(THERE, ("there", "b", "m", 5, 2))
        self.assertEqual(client.receive(1, ("elsewhere", 1)), [])
        self.assertEqual(client.tick(), [(2, ASK[0][1])])
        self.assertEqual(client.receive(2, ("elsewhere", 1)), [])
        self.assertEqual(client.tick(), WHERE)

    def test_with_another_number(self):
        for number in (2, 3, MOST_NUMBER):
            self.check_nothing(1, ("elsewhere", number))
        client = self.client(THERE, ops=(GET, GET, GET))
        client.receive(1, ("answer", 1, NONE))
        for number in (1, 3):
            self.check_nothing(1, ("elsewhere", number), client)

    def test_without_a_route(self):
        client = self.client(("there", "d", None, 4, 1))
        before = look(client)
        self.assertEqual(client.receive(1, ("elsewhere", 1)), [])
        self.assertEqual(look(client), before)
        self.assertEqual(client.tick(), WHERE)

    def test_without_a_pending_request(self):
        client = self.client(THERE, ops=())
        self.check_nothing(1, ("elsewhere", 1), client)
        client.submit(GET)
        client.receive(1, ("answer", 1, NONE))
        self.check_nothing(1, ("elsewhere", 1), client)
        self.check_nothing(1, ("elsewhere", 2), client)

    def test_a_route_that_comes_again(self):
        client = self.client(THERE)
        client.receive(1, ("elsewhere", 1))
        # What was dropped does not count any more, so an older report counts again.
        self.assertEqual(client.receive(DIRECTORY, ("there", "b", "m", 2, 0)), [(0, ASK[0][1])])
        self.assertEqual(client.pieces(), [("b", "m", ("b", "m", 2, 0, 0, ""))])

    def test_from_no_server(self):
        for sender in NO_INTEGERS + (-1, ME, COUNT, DIRECTORY):
            self.check_nothing(sender, ("elsewhere", 1))


class AnswerTest(ClientTest):
    def test_from_any_server(self):
        for server in range(COUNT):
            for letters in ((), (THERE,)):
                client = self.client(*letters)
                pieces = client.pieces()
                self.assertEqual(client.receive(server, ("answer", 1, ("value", "x"))), [])
                self.assertEqual(look(client), (None, [(1, GET, ("value", "x"))], pieces))

    def test_each_answer(self):
        for answer in (DONE, NONE, ("value", ""), ("other", "x"), ("page", (("a", "x"),), "b"), ("page", (), None)):
            for op in OPERATIONS:
                client = self.client(ops=(op,))
                client.receive(0, ("answer", 1, answer))
                self.assertEqual(look(client), (None, [(1, op, answer)], []))

    def test_the_next_one_is_sent_at_once(self):
        client = self.client(THERE, ops=(GET, ("put", "d", "x"), ("get", "z")))
        self.assertEqual(client.receive(1, ("answer", 1, NONE)), [(1, ("ask", 2, ("put", "d", "x")))])
        self.assertEqual(client.pending(), (2, ("put", "d", "x")))
        self.assertEqual(client.receive(1, ("answer", 2, DONE)), [(DIRECTORY, ("where", "z"))])
        self.assertEqual(client.pending(), (3, ("get", "z")))
        self.assertEqual(client.accepted(), [(1, GET, NONE), (2, ("put", "d", "x"), DONE)])

    def test_an_older_number(self):
        client = self.client(THERE, ops=(GET, GET))
        client.receive(1, ("answer", 1, NONE))
        self.check_nothing(1, ("answer", 1, NONE), client)
        self.check_nothing(1, ("answer", 1, ("value", "y")), client)
        client.receive(1, ("answer", 2, NONE))
        for number in (1, 2):
            self.check_nothing(1, ("answer", number, DONE), client)

    def test_a_later_number(self):
        for number in (2, 3, MOST_NUMBER):
            self.check_nothing(1, ("answer", number, NONE))

    def test_without_a_pending_request(self):
        for number in (1, 2):
            self.check_nothing(1, ("answer", number, NONE), self.client(THERE, ops=()))

    def test_from_no_server(self):
        for sender in NO_INTEGERS + (-1, ME, COUNT, DIRECTORY):
            self.check_nothing(sender, ("answer", 1, NONE))

    def test_accepted_is_a_new_list(self):
        client = self.client()
        client.receive(0, ("answer", 1, NONE))
        found = client.accepted()
        self.assertIs(found.__class__, list)
        found.clear()
        self.assertEqual(client.accepted(), [(1, GET, NONE)])
        self.assertEqual(client.submit(GET), WHERE)
        self.assertEqual(client.pending(), (2, GET))


class NoEffectTest(ClientTest):
    def test_letters_of_other_kinds(self):
        for letter, _ in FORMS:
            if SENDERS[letter[0]][1] != "client":
                for sender in (-1, ME, 0, 1, DIRECTORY):
                    self.check_nothing(sender, letter)

    def test_letters_from_clients(self):
        for letter in (("there", "b", "m", 5, 2), ("elsewhere", 1), ("answer", 1, NONE), ("ask", 1, GET)):
            for sender in (ME, -1, -3, -MOST_CLIENTS):
                self.check_nothing(sender, letter)

    def test_letters_of_which_one_part_is_odd(self):
        for sender, letter, forms in ((DIRECTORY, ("there", "b", "d", 5, 2), "-lhns"), (1, ("elsewhere", 1), "-n"),
                                      (1, ("answer", 1, NONE), "-nr")):
            for at, form in enumerate(forms):
                for part in WRONG[form]:
                    self.check_nothing(sender, changed(letter, at, part))

    def test_values_that_are_no_letters(self):
        for value in NO_TUPLES + ((), ("answer",), ("answer", 1), ("answer", 1, NONE, 1), ["answer", 1, NONE],
                                  ["there", "b", "m", 5, 2], ("there", "b", "m", 5), ("elsewhere",),
                                  ["elsewhere", 1], ("tick",)):
            for sender in (ME, 1, DIRECTORY, None):
                self.check_nothing(sender, value)

    def test_a_server_that_the_group_does_not_have(self):
        for server in (COUNT, COUNT + 1, -1):
            self.check_nothing(DIRECTORY, ("there", "b", "m", 5, server))

    def test_pieces_is_a_new_list(self):
        client = self.client(THERE)
        found = client.pieces()
        self.assertIs(found.__class__, list)
        found.clear()
        self.assertEqual(client.pieces(), [PIECE])
        self.assertEqual(client.tick(), ASK)


if __name__ == "__main__":
    unittest.main()

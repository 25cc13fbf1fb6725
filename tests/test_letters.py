import itertools
import unittest

from boundstone.errors import BadLetter
from boundstone.keys import contains
from boundstone.letters import check_letter, is_client, is_letter, is_pairs, is_rows, is_server
from boundstone.limits import DIRECTORY, MOST_CLIENTS, MOST_NUMBER, MOST_SERVERS, MOST_VALUE
from parts import COUNT, FORMS, NO_KEYS, PAIRS, ROWS, SENDERS, WRONG, changed
from values import NO_INTEGERS, NO_STRINGS, NO_TUPLES, Odd

PARTIES = {
    "client": (-1, -2, -MOST_CLIENTS),
    "server": (0, 1, COUNT - 1),
    "directory": (DIRECTORY,),
    "nobody": (-MOST_CLIENTS - 1, COUNT, COUNT + 1, DIRECTORY - 1, DIRECTORY + 1, -DIRECTORY, None,
               True, False, 0.0, 1.0, -1.0, 1000.0, "0", "-1", "client", "server", b"0", (), (0,),
               [0], {}, object(), Odd()),
}


class PartyTest(unittest.TestCase):
    def test_servers(self):
        for count in (1, 2, COUNT, MOST_SERVERS):
            for value in range(-3, MOST_SERVERS + 3):
                self.assertIs(is_server(count, value), 0 <= value < count)
            self.assertIs(is_server(count, DIRECTORY), False)

    def test_clients(self):
        for value in range(-MOST_CLIENTS - 5, 6):
            self.assertIs(is_client(value), -MOST_CLIENTS <= value <= -1)
        self.assertIs(is_client(DIRECTORY), False)
        self.assertIs(is_client(-DIRECTORY), False)

    def test_values_of_other_kinds(self):
        for value in NO_INTEGERS + (-1.0, -2.0):
            with self.subTest(kind=value.__class__):
                self.assertIs(is_server(COUNT, value), False)
                self.assertIs(is_server(1, value), False)
                self.assertIs(is_client(value), False)


class PairsTest(unittest.TestCase):
    def test_pairs_of_the_range(self):
        for pairs in ((), (("b", "x"),), (("czzzzzzz", "x"),), PAIRS, (("bb", "v" * MOST_VALUE),)):
            self.assertIs(is_pairs("b", "d", pairs), True)
        many = tuple((one + two, "v") for one, two in itertools.product("abcdefgh", "abcdefgh"))
        self.assertIs(is_pairs("", None, many), True)

    def test_keys_at_and_outside_of_the_bounds(self):
        for key in ("a", "azzzzzzz", "b", "ba", "c", "czzzzzzz", "d", "da", "z"):
            for low, high in (("b", "d"), ("", "d"), ("b", None), ("", None), ("c", "d")):
                with self.subTest((key, low, high)):
                    self.assertIs(is_pairs(low, high, ((key, "x"),)), contains(low, high, key))
        self.assertIs(is_pairs("b", "d", PAIRS + (("d", "x"),)), False)
        self.assertIs(is_pairs("b", "d", (("a", "x"),) + PAIRS), False)

    def test_keys_doubled_or_out_of_order(self):
        for keys in ("aa", "ba", "abb", "aab", "acb", "cab", "abdc"):
            pairs = tuple((key, "x") for key in keys)
            self.assertIs(is_pairs("", None, pairs), False)
        self.assertIs(is_pairs("", None, (("a", "x"), ("a", "y"))), False)
        self.assertIs(is_pairs("", None, (("b", "x"), ("ab", "y"))), False)

    def test_odd_parts(self):
        for key in NO_STRINGS + NO_KEYS + ("",):
            self.assertIs(is_pairs("", None, ((key, "x"),)), False)
        for value in NO_STRINGS + ("\n", "v" * (MOST_VALUE + 1)):
            self.assertIs(is_pairs("", None, (("a", value),)), False)
        for pair in NO_TUPLES + ((), ("a",), ("a", "x", "y"), ["a", "x"], "ax"):
            self.assertIs(is_pairs("", None, (pair,)), False)
            self.assertIs(is_pairs("", None, (("a", "x"), pair)), False)

    def test_values_of_other_kinds(self):
        for value in NO_TUPLES + ([("a", "x")], ("a", "x"), {"a": "x"}):
            with self.subTest(kind=value.__class__):
                self.assertIs(is_pairs("", None, value), False)


class RowsTest(unittest.TestCase):
    def test_rows(self):
        everyone = tuple((client, 1, ("none",)) for client in range(-MOST_CLIENTS, 0))
        for rows in ((), ROWS, ROWS[:1], ROWS[1:], everyone):
            self.assertIs(is_rows(rows), True)

    def test_clients_doubled_or_out_of_order(self):
        for clients in ((-1, -1), (-1, -2), (-3, -1, -2), (-3, -2, -2), (-3, -3, -1), (-2, -3, -1)):
            with self.subTest(clients):
                self.assertIs(is_rows(tuple((client, 1, ("done",)) for client in clients)), False)
        self.assertIs(is_rows(((-1, 1, ("done",)), (-1, 2, ("none",)))), False)

    def test_clients_beyond_their_bounds(self):
        for client in (-MOST_CLIENTS, -1):
            self.assertIs(is_rows(((client, 1, ("done",)),)), True)
        for client in NO_INTEGERS + (-MOST_CLIENTS - 1, 0, 1, DIRECTORY):
            self.assertIs(is_rows(((client, 1, ("done",)),)), False)
        self.assertIs(is_rows(((-1, 1, ("done",)), (0, 1, ("done",)))), False)

    def test_numbers_and_answers(self):
        for number in (1, 2, MOST_NUMBER):
            self.assertIs(is_rows(((-1, number, ("done",)),)), True)
        for number in WRONG["n"]:
            self.assertIs(is_rows(((-1, number, ("done",)),)), False)
        for answer in WRONG["r"]:
            self.assertIs(is_rows(((-1, 1, answer),)), False)

    def test_odd_rows(self):
        for row in NO_TUPLES + ((), (-1,), (-1, 1), (-1, 1, ("done",), 1), [-1, 1, ("done",)]):
            with self.subTest(kind=row.__class__):
                self.assertIs(is_rows((row,)), False)
                self.assertIs(is_rows(((-2, 1, ("done",)), row)), False)

    def test_values_of_other_kinds(self):
        for value in NO_TUPLES + ([(-1, 1, ("done",))], (-1, 1, ("done",))):
            with self.subTest(kind=value.__class__):
                self.assertIs(is_rows(value), False)


class LetterTest(unittest.TestCase):
    def test_each_letter(self):
        for letter, _ in FORMS:
            with self.subTest(letter[0]):
                self.assertIs(is_letter(COUNT, letter), True)

    def test_one_part_odd(self):
        for letter, forms in FORMS:
            self.assertEqual(len(letter), len(forms))
            for at, form in enumerate(forms):
                for part in WRONG[form]:
                    with self.subTest(letter[0], at=at, kind=part.__class__):
                        self.assertIs(is_letter(COUNT, changed(letter, at, part)), False)

    def test_one_part_left_out_or_added(self):
        for letter, _ in FORMS:
            for at in range(len(letter)):
                with self.subTest(letter[0], left_out=at):
                    self.assertIs(is_letter(COUNT, letter[:at] + letter[at + 1:]), False)
            for part in (1, "c", None, (), ("done",)):
                with self.subTest(letter[0], added=part):
                    self.assertIs(is_letter(COUNT, letter + (part,)), False)

    def test_values_that_are_no_tuples(self):
        for value in NO_TUPLES + (["where", "a"], "where", (), (("where", "a"),)):
            with self.subTest(kind=value.__class__):
                self.assertIs(is_letter(COUNT, value), False)
                for parties in itertools.product((-1, 0, DIRECTORY), (-1, 0, DIRECTORY)):
                    with self.assertRaises(BadLetter):
                        check_letter(COUNT, *parties, value)

    def test_numbers_and_epochs(self):
        for letter, forms in FORMS:
            for at, form in enumerate(forms):
                if form == "n":
                    for number, expected in ((0, False), (1, True), (MOST_NUMBER, True),
                                             (MOST_NUMBER + 1, False)):
                        with self.subTest(letter[0], at=at, number=number):
                            self.assertIs(is_letter(COUNT, changed(letter, at, number)), expected)

    def test_sizes(self):
        for size, expected in ((-1, False), (0, True), (1, True), (MOST_NUMBER, True),
                               (MOST_NUMBER + 1, False)):
            self.assertIs(is_letter(COUNT, ("have", "b", "d", 3, size, "")), expected)

    def test_servers(self):
        for kind in ("there", "move"):
            for count in (1, COUNT, MOST_SERVERS):
                for server, expected in ((-1, False), (0, True), (count - 1, True), (count, False)):
                    letter = (kind, "b", "d", 3, server)
                    self.assertIs(is_letter(count, letter), expected)

    def test_bounds(self):
        for bound in ("", "a", "zzzzzzzz"):
            self.assertIs(is_letter(COUNT, ("where", bound)), True)
            self.assertIs(is_letter(COUNT, ("have", "b", "d", 3, 5, bound)), True)

    def test_ranges(self):
        for kind, rest in (("there", (2,)), ("move", (2,)), ("have", (5, "")), ("content", ((), ())),
                           ("receipt", ())):
            for low, high, expected in (("", None, True), ("", "a", True), ("a", None, True),
                                        ("a", "b", True), ("a", "a", False), ("b", "a", False),
                                        ("", "", False), ("a", "", False), (None, None, False),
                                        (None, "a", False)):
                with self.subTest(kind, low=low, high=high):
                    self.assertIs(is_letter(COUNT, (kind, low, high, 3) + rest), expected)

    def test_split(self):
        for low, high, at, expected in (
                ("b", "d", "c", True), ("b", "d", "ba", True), ("b", "d", "czzzzzzz", True),
                ("b", "d", "b", False), ("b", "d", "d", False), ("b", "d", "a", False),
                ("b", "d", "e", False), ("b", "d", "", False), ("", "d", "a", True),
                ("", "d", "", False), ("", None, "a", True), ("", None, "", False),
                ("b", None, "c", True), ("b", None, "b", False), ("b", None, "a", False),
                ("b", None, None, False), ("", None, None, False), ("d", "b", "c", False),
                (None, "d", "c", False), ("b", "", "c", False)):
            with self.subTest((low, high, at)):
                self.assertIs(is_letter(COUNT, ("split", low, high, 3, at)), expected)

    def test_join(self):
        for low, middle, high, expected in (
                ("b", "c", "d", True), ("", "c", "d", True), ("", "c", None, True),
                ("b", "c", None, True), ("b", "b", "d", False), ("b", "d", "d", False),
                ("b", "e", "d", False), ("b", "a", "d", False), ("d", "c", "b", False),
                ("", "", "d", False), ("b", None, "d", False), ("b", None, None, False),
                ("b", "c", "", False), ("b", "", "d", False), (None, "c", "d", False),
                ("b", "c", "b", False)):
            with self.subTest((low, middle, high)):
                self.assertIs(is_letter(COUNT, ("join", low, middle, 3, high, 4)), expected)

    def test_content(self):
        for pairs, rows in (((), ()), (PAIRS, ()), ((), ROWS), (PAIRS[1:], ROWS[:2])):
            self.assertIs(is_letter(COUNT, ("content", "b", "d", 3, pairs, rows)), True)
        self.assertIs(is_letter(COUNT, ("content", "", None, 3, PAIRS, ROWS)), True)
        for low, high in (("ba", "d"), ("b", "c"), ("d", None), ("", "b")):
            self.assertIs(is_letter(COUNT, ("content", low, high, 3, PAIRS, ROWS)), False)

    def test_operations_and_answers(self):
        for op in (("get", "a"), ("put", "a", "x"), ("drop", "a"), ("swap", "a", "x", "y"),
                   ("page", "", 50)):
            self.assertIs(is_letter(COUNT, ("ask", 1, op)), True)
        for answer in (("none",), ("done",), ("value", "x"), ("other", "x"), ("page", (), None)):
            self.assertIs(is_letter(COUNT, ("answer", 1, answer)), True)


class CheckTest(unittest.TestCase):
    def test_each_letter_between_each_two_parties(self):
        for letter, _ in FORMS:
            for source, target in itertools.product(PARTIES, PARTIES):
                fits = SENDERS[letter[0]] == (source, target)
                for sender, receiver in itertools.product(PARTIES[source], PARTIES[target]):
                    with self.subTest(letter[0], source=source, target=target):
                        self.check(letter, sender, receiver, fits)

    def check(self, letter, sender, receiver, fits):
        if fits:
            self.assertIs(check_letter(COUNT, sender, receiver, letter), letter)
        else:
            with self.assertRaises(BadLetter):
                check_letter(COUNT, sender, receiver, letter)

    def test_a_server_may_send_to_itself(self):
        for letter in (("content", "b", "d", 3, PAIRS, ROWS), ("receipt", "b", "d", 3)):
            for server in range(COUNT):
                self.assertIs(check_letter(COUNT, server, server, letter), letter)

    def test_the_number_of_servers(self):
        letter = ("ask", 3, ("get", "a"))
        for count in (1, 2, MOST_SERVERS):
            self.assertIs(check_letter(count, -1, count - 1, letter), letter)
            with self.assertRaises(BadLetter):
                check_letter(count, -1, count, letter)
        for count in (1, 2):
            with self.assertRaises(BadLetter):
                check_letter(count, DIRECTORY, 0, ("move", "b", "d", 3, count))

    def test_odd_letters_between_the_right_parties(self):
        for letter, forms in FORMS:
            source, target = SENDERS[letter[0]]
            for at in range(1, len(forms)):
                for part in WRONG[forms[at]]:
                    with self.subTest(letter[0], at=at, kind=part.__class__):
                        with self.assertRaises(BadLetter):
                            check_letter(COUNT, PARTIES[source][0], PARTIES[target][0],
                                         changed(letter, at, part))


if __name__ == "__main__":
    unittest.main()

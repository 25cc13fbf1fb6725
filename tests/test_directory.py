import random
import unittest

from boundstone.directory import PLAN, Directory
from boundstone.limits import DIRECTORY, MOST_CLIENTS, MOST_NUMBER, MOST_SERVERS
from boundstone.planner import plan
from boundstone.routes import Routes
from parts import COUNT, FORMS, WRONG, changed
from values import NO_INTEGERS, NO_TUPLES

# Letters of three servers: the shard of the first one is to be split, two of the second one are to be joined,
# and the first one of the third one is to be moved.
HAVES = (
    (0, ("have", "", "f", 4, 9, "c")),
    (1, ("have", "f", "m", 3, 1, "")),
    (1, ("have", "m", "p", 5, 2, "n")),
    (2, ("have", "p", "t", 2, 6, "r")),
    (2, ("have", "t", "x", 2, 6, "u")),
    (2, ("have", "x", None, 2, 6, "y")),
)
ORDERS = [
    (0, ("split", "", "f", 4, "c")),
    (1, ("join", "f", "m", 3, "p", 5)),
    (2, ("move", "p", "t", 2, 0)),
]

NO_CLIENTS = NO_INTEGERS + (0, 1, COUNT - 1, COUNT, DIRECTORY, -MOST_CLIENTS - 1, -DIRECTORY)
NO_SERVERS = NO_INTEGERS + (-1, -2, -MOST_CLIENTS, COUNT, COUNT + 1, DIRECTORY, DIRECTORY - 1)


def directory_of(haves=HAVES, count=COUNT):
    directory = Directory(count)
    for sender, letter in haves:
        directory.receive(sender, letter)
    return directory


def report(sender, letter):
    _, low, high, epoch, size, middle = letter
    return (low, high, epoch, sender, size, middle)


class DirectoryTest(unittest.TestCase):
    def check_nothing(self, sender, letter, haves=HAVES):
        directory = directory_of(haves)
        before = directory.pieces()
        self.assertEqual(directory.receive(sender, letter), [])
        self.assertEqual(directory.pieces(), before)


class TickTest(DirectoryTest):
    def test_the_number_of_ticks(self):
        self.assertEqual(PLAN, 16)

    def test_ticks(self):
        directory = directory_of(HAVES, 3)
        self.assertEqual(plan(directory.pieces(), 3), ORDERS)
        for number in range(1, 100):
            letters = directory.tick()
            self.assertIs(letters.__class__, list)
            self.assertEqual(letters, ORDERS if number in (16, 32, 48, 64, 80, 96) else [], number)

    def test_what_is_known_at_the_tick_is_planned(self):
        directory = Directory(2)
        for number in range(1, 16):
            self.assertEqual(directory.tick(), [])
        directory.receive(1, ("have", "b", "m", 3, 9, "f"))
        self.assertEqual(directory.tick(), [(1, ("split", "b", "m", 3, "f"))])
        for number in range(17, 32):
            self.assertEqual(directory.tick(), [])
        directory.receive(1, ("have", "b", "f", 4, 4, "d"))
        directory.receive(1, ("have", "f", "m", 4, 5, "k"))
        self.assertEqual(directory.tick(), [(1, ("move", "b", "f", 4, 0))])

    def test_an_order_that_was_lost_comes_again(self):
        directory = directory_of(HAVES[:1], 1)
        for number in range(1, 100):
            # What is told again does not change the plan.
            directory.receive(*HAVES[0])
            self.assertEqual(directory.tick(), ORDERS[:1] if number % 16 == 0 else [])

    def test_a_directory_that_knows_nothing(self):
        directory = Directory(COUNT)
        self.assertEqual([directory.tick() for _ in range(64)], [[]] * 64)
        self.assertEqual(directory.pieces(), [])

    def test_letters_are_no_ticks(self):
        directory = directory_of(HAVES * 20, 3)
        for _ in range(40):
            directory.receive(-1, ("where", "a"))
        self.assertEqual([directory.tick() for _ in range(16)], [[]] * 15 + [ORDERS])

    def test_the_number_of_servers(self):
        # With a fourth server, which has no load, the move goes there.
        directory = directory_of(HAVES, 4)
        letters = [directory.tick() for _ in range(16)][-1]
        self.assertEqual(letters, ORDERS[:2] + [(2, ("move", "p", "t", 2, 3))])

    def test_plans_of_all_kinds(self):
        chance = random.Random(5)
        for _ in range(200):
            directory, routes = Directory(COUNT), Routes()
            for _ in range(chance.randint(1, 12)):
                low, high = sorted(chance.sample("abcdefgh", 2))
                letter = ("have", low, high, chance.randint(1, 3), chance.randint(0, 12), chance.choice("abcdefgh"))
                sender = chance.randrange(COUNT)
                directory.receive(sender, letter)
                routes.add(report(sender, letter))
            expected = plan(routes.pieces(), COUNT)
            self.assertEqual([directory.tick() for _ in range(32)], ([[]] * 15 + [expected]) * 2)


class HaveTest(DirectoryTest):
    def test_have(self):
        for count in (1, 2, COUNT, MOST_SERVERS):
            for sender in range(count):
                for letter in (("have", "b", "d", 3, 5, "c"), ("have", "", None, MOST_NUMBER, MOST_NUMBER, "")):
                    directory = Directory(count)
                    self.assertEqual(directory.receive(sender, letter), [])
                    found = report(sender, letter)
                    self.assertEqual(directory.pieces(), [(letter[1], letter[2], found)])

    def test_all_that_is_known(self):
        directory, routes = Directory(COUNT), Routes()
        for sender, letter in HAVES + ((3, ("have", "c", "n", 4, 7, "d")), (1, ("have", "a", "z", 2, 1, ""))):
            self.assertEqual(directory.receive(sender, letter), [])
            routes.add(report(sender, letter))
            self.assertEqual(directory.pieces(), routes.pieces())

    def test_from_others(self):
        for sender in NO_SERVERS:
            self.check_nothing(sender, ("have", "b", "d", 9, 5, "c"))

    def test_older_and_equal_epochs(self):
        directory = directory_of([(0, ("have", "b", "m", 3, 5, "f"))])
        directory.receive(1, ("have", "b", "m", 2, 6, "g"))
        self.assertEqual(directory.pieces(), [("b", "m", ("b", "m", 3, 0, 5, "f"))])
        directory.receive(0, ("have", "b", "m", 3, 7, "h"))
        self.assertEqual(directory.pieces(), [("b", "m", ("b", "m", 3, 0, 7, "h"))])
        directory.receive(1, ("have", "b", "m", 4, 1, ""))
        self.assertEqual(directory.pieces(), [("b", "m", ("b", "m", 4, 1, 1, ""))])

    def test_pieces_is_a_new_list(self):
        directory = directory_of()
        before = directory.pieces()
        self.assertIs(before.__class__, list)
        found = directory.pieces()
        found.clear()
        self.assertEqual(directory.pieces(), before)
        directory.receive(0, ("have", "a", "b", 9, 0, ""))
        self.assertNotEqual(directory.pieces(), before)


class WhereTest(DirectoryTest):
    def test_where(self):
        for name in (-1, -2, -MOST_CLIENTS):
            for place, letter in (("", ("there", "", "f", 4, 0)), ("a", ("there", "", "f", 4, 0)),
                                  ("ezzzzzzz", ("there", "", "f", 4, 0)), ("f", ("there", "f", "m", 3, 1)),
                                  ("m", ("there", "m", "p", 5, 1)), ("ozzzzzzz", ("there", "m", "p", 5, 1)),
                                  ("p", ("there", "p", "t", 2, 2)), ("x", ("there", "x", None, 2, 2)),
                                  ("zzzzzzzz", ("there", "x", None, 2, 2))):
                directory = directory_of()
                before = directory.pieces()
                self.assertEqual(directory.receive(name, ("where", place)), [(name, letter)])
                self.assertEqual(directory.pieces(), before)

    def test_where_newer_reports_cover_a_part_of_an_older_one(self):
        directory = directory_of([(0, ("have", "b", "t", 3, 5, "f")), (1, ("have", "f", "m", 4, 2, "g"))])
        for place, letter in (("b", ("there", "b", "f", 3, 0)), ("ezz", ("there", "b", "f", 3, 0)),
                              ("f", ("there", "f", "m", 4, 1)), ("lzz", ("there", "f", "m", 4, 1)),
                              ("m", ("there", "m", "t", 3, 0)), ("szz", ("there", "m", "t", 3, 0))):
            self.assertEqual(directory.receive(-1, ("where", place)), [(-1, letter)])
        for place in ("", "a", "azzzzzzz", "t", "z"):
            self.assertEqual(directory.receive(-1, ("where", place)), [])

    def test_a_place_without_a_piece(self):
        self.check_nothing(-1, ("where", "a"), ())
        self.check_nothing(-1, ("where", ""), ())
        for place in ("", "a", "azzzzzzz", "d", "e"):
            self.check_nothing(-1, ("where", place), [(0, ("have", "b", "d", 3, 5, "c"))])

    def test_from_others(self):
        for sender in NO_CLIENTS:
            self.check_nothing(sender, ("where", "a"))

    def test_a_client_is_told_as_often_as_it_asks(self):
        directory = directory_of()
        for _ in range(3):
            self.assertEqual(directory.receive(-1, ("where", "a")), [(-1, ("there", "", "f", 4, 0))])


class NoEffectTest(DirectoryTest):
    def test_every_other_letter(self):
        for letter, _ in FORMS:
            for sender in (-1, -MOST_CLIENTS, 0, COUNT - 1, DIRECTORY):
                if (letter[0], sender < 0) not in (("where", True), ("have", False)) or sender == DIRECTORY:
                    self.check_nothing(sender, letter)

    def test_letters_of_which_one_part_is_odd(self):
        for letter, forms in FORMS:
            for at, form in enumerate(forms):
                for part in WRONG[form]:
                    self.check_nothing(0, changed(letter, at, part))
                    self.check_nothing(-1, changed(letter, at, part))

    def test_values_that_are_no_letters(self):
        for value in NO_TUPLES + ((), ("have",), ("where",), ("have", "b", "d", 9, 5), ("where", "a", 1),
                                  ["have", "b", "d", 9, 5, "c"], ["where", "a"], ("tick",)):
            for sender in (-1, 0, DIRECTORY, None):
                self.check_nothing(sender, value)

    def test_a_new_list_each_time(self):
        directory = directory_of()
        for sender, letter in ((0, HAVES[0][1]), (-1, ("where", "a")), (0, ("where", "a")), (0, None)):
            found = directory.receive(sender, letter)
            expected = list(found)
            found.append(None)
            self.assertEqual(directory.receive(sender, letter), expected)
        directory.tick().append(None)
        self.assertEqual(directory.tick(), [])


if __name__ == "__main__":
    unittest.main()

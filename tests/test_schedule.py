import unittest

from boundstone.acts import ITEMS
from boundstone.errors import BadSchedule
from boundstone.limits import MOST_CLIENTS, MOST_LENGTH, MOST_NUMBER, MOST_SERVERS
from boundstone.schedule import act_line, parse_schedule, run_schedule
from boundstone.texts import encode
from values import NO_INTEGERS, NO_STRINGS, NO_TUPLES
from worlds import live, look, world_of

PERCENT = chr(37)
GREATEST = 10 ** 12 - 1

# Lines and their acts, which are all acts that check_act lets pass.
LINES = (
    ("tick 1", ("tick", 1)),
    ("tick 1000", ("tick", 1000)),
    ("calm 16", ("calm", 16)),
    ("submit -1 ('get','c')", ("submit", -1, ("get", "c"))),
    ("submit -999999999999 ('put','c','')", ("submit", -GREATEST, ("put", "c", ""))),
    ("submit -10 ('put','c','it''s  a ''b'' ')", ("submit", -10, ("put", "c", "it's  a 'b' "))),
    ("submit -101 ('swap','abcdefgh',' ','# world 1 1')", ("submit", -101, ("swap", "abcdefgh", " ", "# world 1 1"))),
    ("submit -2 ('drop','z')", ("submit", -2, ("drop", "z"))),
    ("submit -2 ('page','',50)", ("submit", -2, ("page", "", 50))),
    ("deliver 0", ("deliver", 0)),
    ("deliver 999999999999", ("deliver", GREATEST)),
    ("round", ("round",)),
    ("lose 10", ("lose", 10)),
    ("double 7", ("double", 7)),
    ("move 100", ("move", 100)),
    ("order 0 ('move','b','d',3,1)", ("order", 0, ("move", "b", "d", 3, 1))),
    ("order 20 ('split','',*,1,'c')", ("order", 20, ("split", "", None, 1, "c"))),
    ("order 999999999999 ()", ("order", GREATEST, ())),
    ("order 1 ('a b','it''s',(-1,()),*)", ("order", 1, ("a b", "it's", (-1, ()), None))),
    ("arm 0 0", ("arm", 0, 0)),
    ("arm 3 999999999999", ("arm", 3, GREATEST)),
    ("crash 0", ("crash", 0)),
    ("crash 999999999999", ("crash", GREATEST)),
    ("restart 2 10", ("restart", 2, 10)),
)

# Lines of acts that are not possible, or never are.
MORE_LINES = (
    ("tick 0", ("tick", 0)),
    ("tick 1001", ("tick", 1001)),
    ("calm 0", ("calm", 0)),
    ("calm 999999999999", ("calm", GREATEST)),
)

NO_NUMBERS = ("", "-1", "-0", "00", "01", "007", "+1", "1234567890123", "1000000000000", "0" * 12, "1.", "1e3", "a",
              "1a", "a1", "*", "'1'", "()", "(1)", "1,2", "-", "--1", "1-", "#", "1_0", "x" * (MOST_LENGTH + 1))
NO_CLIENTS = ("", "1", "0", "-0", "-00", "-01", "-007", "--1", "-", "+1", "-1234567890123", "-1000000000000", "-1.",
              "-a", "a", "*", "'-1'", "(-1)", "-1-", "1-")
NO_OPERATION_TEXTS = ("", " ", "get", "('get')", "('get','c'", "('get','c') ", " ('get','c')", "('get', 'c')",
                      "('get','')", "('get','C')", "('get','c','d')", "('page','a',51)", "('put','a',1)", "(1)", "()",
                      "'get'", "*", "5", "('get','c')('get','c')", "('ask',1,('get','c'))", "(('get','c'))")
NO_LETTER_TEXTS = ("", " ", "move", "'move'", "*", "5", "-1", "(", ")", "(,)", "(1,)", "(1, 2)", "() ", " ()", "()()",
                   "(01)", "(-0)", "(" * 11 + ")" * 11, "('a)", "(" + "1" * 31 + ")", "(" + "1," * MOST_LENGTH + "1)")


class ScheduleTest(unittest.TestCase):
    def check_bad(self, text, line, reason):
        with self.assertRaises(BadSchedule) as caught:
            parse_schedule(text)
        self.assertEqual((caught.exception.line, caught.exception.reason), (line, reason), text[:200])

    def check_line(self, line, reason):
        """Check what is wrong with a line, wherever it stands behind the line of the world."""
        self.check_bad("world 2 2\n" + line, 2, reason)
        self.check_bad("\n# a b\nworld 2 2\nround\n\n" + line + "\nround\nfly\nworld", 6, reason)

    def check_first(self, line, reason):
        """Check what is wrong with the first line that is not skipped."""
        self.check_bad(line, 1, reason)
        self.check_bad("\n# world 1 1\n\n" + line + "\nworld 2 2\nfly", 4, reason)


class ParseTest(ScheduleTest):
    def test_each_line(self):
        for line, act in LINES + MORE_LINES:
            self.assertEqual(parse_schedule("world 2 3\n" + line), (1, 2, 3, [(2, act)]))

    def test_all_lines(self):
        acts = [(at, act) for at, (_, act) in enumerate(LINES + MORE_LINES, start=2)]
        text = "\n".join(["world 20 0"] + [line for line, _ in LINES + MORE_LINES])
        found = parse_schedule(text)
        self.assertEqual(found, (1, 20, 0, acts))
        self.assertEqual([part.__class__ for part in found], [int, int, int, list])
        self.assertEqual({item.__class__ for item in found[3]}, {tuple})

    def test_the_line_of_the_world(self):
        for servers, clients in ((1, 0), (20, 100), (0, 0), (21, 101), (GREATEST, GREATEST)):
            self.assertEqual(parse_schedule(f"world {servers} {clients}"), (1, servers, clients, []))

    def test_lines_that_are_skipped(self):
        text = "#\n\n# world 1 1\n#tick\nworld 1 1\n\n\n#world 2 2\nround\n## a  b 'c' \n\nround\n# \n"
        self.assertEqual(parse_schedule(text), (5, 1, 1, [(9, ("round",)), (12, ("round",))]))
        self.assertEqual(parse_schedule("world 1 1\n"), (1, 1, 1, []))
        self.assertEqual(parse_schedule("\n\nworld 1 1\n\n\n"), (3, 1, 1, []))

    def test_a_new_list_each_time(self):
        found = parse_schedule("world 1 1\nround")
        found[3].clear()
        self.assertEqual(parse_schedule("world 1 1\nround"), (1, 1, 1, [(2, ("round",))]))


class CharacterTest(ScheduleTest):
    def test_characters(self):
        for character in ("\t", PERCENT, "\r", "\x00", "\x1f", "\x7f", "\u00e9", "\u00a0", "\u2028", "\x0b", "\x0c",
                          "\x85"):
            for line in (character, "round" + character, character + "round", "tick 1" + character,
                         "submit -1 ('put','c','" + character + "')", "tick" + character + "1", "fly " + character,
                         "world 1 1" + character):
                self.check_line(line, "character")
                self.check_first(line, "character")

    def test_comments(self):
        # A comment is a line too, and all lines are checked.
        for line in ("# " + PERCENT, "#\t", "#\u00e9"):
            self.check_line(line, "character")
            self.check_first(line, "character")

    def test_printable_characters(self):
        every = "".join(chr(code) for code in range(32, 127) if chr(code) != PERCENT)
        self.assertEqual(parse_schedule("#" + every + "\nworld 1 1")[0], 2)
        for at in range(0, len(every), 40):
            op = ("put", "c", every[at:at + 40])
            self.assertEqual(parse_schedule("world 1 1\nsubmit -1 " + encode(op))[3], [(2, ("submit", -1, op))])


class WorldLineTest(ScheduleTest):
    def test_no_world_line(self):
        for text in ("", "\n", "\n\n\n", "#", "# world 1 1", "\n#\n\n# a b\n"):
            self.check_bad(text, 0, "world")

    def test_an_act_before_it(self):
        for line, _ in LINES + MORE_LINES:
            self.check_first(line, "world")

    def test_other_first_lines(self):
        for line in (" ", "   ", " world 1 1", " # a", "World 1 1", "worlds 1 1", "world1 1 1", "fly", "-",
                     "'world' 1 1", "fly 1 2 3", "tick", "tick x", "submit x y", "wor ld"):
            self.check_first(line, "world")

    def test_two_of_them(self):
        for line in ("world 2 2", "world 1 1", "world", "world ", "world x y", "world 1 1 1"):
            self.check_line(line, "world")

    def test_words_and_numbers(self):
        for line in ("world", "world 1", "world 1 1 1", "world 1 1 ", "world  1 1", "world 1  1", "world x",
                     "world a b c"):
            self.check_first(line, "count")
        for word in NO_NUMBERS:
            for line in (f"world {word} 1", f"world 1 {word}", f"world {word} {word}"):
                self.check_first(line, "number")
        self.check_first("world ", "count")
        self.check_first("world  ", "number")


class VerbTest(ScheduleTest):
    def test_words_that_are_none(self):
        for line in ("fly", "fly 1", "ticks 1", "Tick 1", "tick1", "tic 1", "tick,1", " ", "    ", " tick 1", " round",
                     "-", "get c", "have", "('tick',1)", "rounds", "worlds 1 1", "number", "ticks", "client",
                     "operation 1"):
            self.check_line(line, "verb")


class CountTest(ScheduleTest):
    def test_too_few_words(self):
        for word, forms in ITEMS.items():
            for count in range(len(forms)):
                self.check_line(" ".join([word] + ["1"] * count), "count")
        for line in ("submit", "submit -1", "submit ('get','c')", "order", "order 0", "order ()", "arm 0", "restart 0"):
            self.check_line(line, "count")

    def test_too_many_words(self):
        for line, act in LINES + MORE_LINES:
            if act[0] not in ("submit", "order"):
                for more in (" ", " 1", "  1", " x"):
                    self.check_line(line + more, "count")
                self.check_line(line.replace(" ", "  ", 1) if " " in line else "round ", "count")

    def test_a_space_at_the_end(self):
        # Behind the space is an empty word.
        for word in ("tick", "calm", "deliver", "lose", "double", "move", "crash"):
            self.check_line(word + " ", "number")
            self.check_line(word + "  ", "count")
        self.check_line("arm 0 ", "number")
        self.check_line("arm ", "count")
        self.check_line("submit ", "count")
        self.check_line("submit -1 ", "text")
        self.check_line("order 0 ", "text")

    def test_two_spaces_before_the_last_word(self):
        self.check_line("submit  -1 ('get','c')", "number")
        self.check_line("submit -1  ('get','c')", "text")
        self.check_line("order  0 ()", "number")
        self.check_line("order 0  ()", "text")


class NumberTest(ScheduleTest):
    def test_words_that_are_no_numbers(self):
        for word in NO_NUMBERS:
            for line in ("tick {}", "calm {}", "deliver {}", "lose {}", "double {}", "move {}", "order {} ()",
                         "arm {} 0", "arm 0 {}", "arm {} x", "crash {}", "restart {} 0", "restart 0 {}"):
                self.check_line(line.format(word), "number")

    def test_words_that_are_no_clients(self):
        for word in NO_CLIENTS:
            self.check_line(f"submit {word} ('get','c')", "number")

    def test_all_lengths(self):
        for length in range(1, 13):
            for digits in ("9" * length, "1" + "0" * (length - 1)):
                acts = parse_schedule(f"world 1 1\ndeliver {digits}\nsubmit -{digits} ('get','c')")[3]
                self.assertEqual(acts, [(2, ("deliver", int(digits))), (3, ("submit", -int(digits), ("get", "c")))])
        for digits in ("1" + "0" * 12, "9" * 13, "9" * 31, "9" * 5000):
            self.check_line(f"deliver {digits}", "number")
            self.check_line(f"submit -{digits} ('get','c')", "number")


class TextTest(ScheduleTest):
    def test_operations(self):
        for text in NO_OPERATION_TEXTS:
            self.check_line("submit -1 " + text, "text")

    def test_letters(self):
        for text in NO_LETTER_TEXTS:
            self.check_line("order 0 " + text, "text")


class OrderTest(ScheduleTest):
    """Where two checks of a line fail, the first one decides."""

    def test_character_first(self):
        for line in ("fly\t", "\t1 1", "tick\t", "tick 1 1\t", "tick x\t", "submit -1 \t", "submit 1 (\t)"):
            self.check_line(line, "character")
            self.check_first(line, "character")

    def test_world_before_verb_count_and_number(self):
        for line in ("fly", "tick", "tick x", "submit -1 x"):
            self.check_first(line, "world")
        for line in ("world", "world x", "world x x", "world 1 1 1"):
            self.check_line(line, "world")

    def test_verb_before_count_and_number(self):
        for line in ("fly", "fly x", "fly 1 1 1", "fly  ", " "):
            self.check_line(line, "verb")

    def test_count_before_number_and_text(self):
        for line in ("tick x x", "arm x", "arm x x x", "submit x", "order x", "restart -1", "round x"):
            self.check_line(line, "count")

    def test_number_before_text(self):
        for line in ("submit x y", "submit 1 ", "order x y", "order -1 ("):
            self.check_line(line, "number")

    def test_the_first_line_decides(self):
        bad = (("order 0 x", "text"), ("tick x", "number"), ("tick", "count"), ("fly", "verb"), ("world", "world"),
               ("\t", "character"))
        for line, reason in bad:
            for other, _ in bad:
                self.check_bad("world 1 1\n" + line + "\n" + other, 2, reason)
        self.check_bad("world 1\nfly\n\t", 1, "count")
        self.check_bad("fly\n\t", 1, "world")

    def test_whether_an_act_is_possible_is_not_checked(self):
        text = "world 0 0\ntick 0\nsubmit -5 ('get','c')\ndeliver 9\norder 9 ()\nrestart 0 0\ncrash 7"
        self.assertEqual(len(parse_schedule(text)[3]), 6)


class LineTest(unittest.TestCase):
    def check_bad(self, act):
        with self.assertRaises(BadSchedule) as caught:
            act_line(act)
        self.assertEqual((caught.exception.line, caught.exception.reason), (0, "act"))

    def test_each_act(self):
        for line, act in LINES:
            self.assertEqual(act_line(act), line)

    def test_there_and_back(self):
        for seed in range(5):
            _, _, _, acts = live(seed, 200)
            text = "\n".join(["world 3 3"] + [act_line(act) for act in acts])
            self.assertEqual([act for _, act in parse_schedule(text)[3]], acts)

    def test_values_that_are_no_acts(self):
        for value in NO_TUPLES + ((), ("fly",), ("round", 1), ("tick",), ("tick", 1, 1), ("world", 1, 1), ["round"],
                                  "round", ("submit", -1), ("order", 0), ("arm", 0)):
            self.check_bad(value)
        for kind in NO_STRINGS:
            self.check_bad((kind,))

    def test_numbers_that_check_act_refuses(self):
        for _, act in MORE_LINES:
            self.check_bad(act)
        for number in NO_INTEGERS + (-1, MOST_NUMBER + 1):
            for act in (("tick", number), ("deliver", number), ("arm", 0, number), ("restart", 0, number)):
                self.check_bad(act)

    def test_numbers_that_are_too_long(self):
        for number in (MOST_NUMBER, MOST_NUMBER + 1, 10 ** 40):
            for act in (("deliver", number), ("lose", number), ("double", number), ("move", number), ("arm", 0, number),
                        ("arm", number, 0), ("restart", 0, number), ("restart", number, 0), ("crash", number),
                        ("order", number, ()), ("submit", -number, ("get", "c"))):
                self.check_bad(act)

    def test_servers_and_clients_that_have_no_line(self):
        for server in NO_INTEGERS + (-1, -100):
            for act in (("crash", server), ("arm", server, 0), ("restart", server, 0), ("order", server, ())):
                self.check_bad(act)
        for client in NO_INTEGERS + (0, 1, 100):
            self.check_bad(("submit", client, ("get", "c")))

    def test_operations_and_letters_that_have_no_line(self):
        for op in NO_TUPLES + ((), ("get",), ("get", ""), ("page", "a", 51), ("put", "a", 1), ["get", "c"],
                               ("put", "c", PERCENT), ("put", "c", "\n")):
            self.check_bad(("submit", -1, op))
        deep = ()
        for _ in range(9):
            deep = (deep,)
        self.assertEqual(act_line(("order", 0, deep)), "order 0 " + encode(deep))
        for letter in NO_TUPLES + ((True,), (1.5,), ([],), ("\n",), (PERCENT,), ("\u00e9",), (10 ** 30,), (deep,), [],
                                   ("x" * MOST_LENGTH,), (None, ("a", {}))):
            self.check_bad(("order", 0, letter))


class RunTest(unittest.TestCase):
    def check_bad(self, text, line, reason):
        with self.assertRaises(BadSchedule) as caught:
            run_schedule(text)
        self.assertEqual((caught.exception.line, caught.exception.reason), (line, reason))

    def test_a_world(self):
        text = "world 2 1\nsubmit -1 ('put','c','it''s')\n# a b\ncalm 5\norder 0 ('move','',*,1,1)\ncalm 3\ncrash 0"
        acts = (("submit", -1, ("put", "c", "it's")), ("calm", 5), ("order", 0, ("move", "", None, 1, 1)), ("calm", 3),
                ("crash", 0))
        world = run_schedule(text)
        self.assertEqual(look(world, 2, 1), look(world_of(2, 1, *acts), 2, 1))
        self.assertEqual(world.client(-1).accepted(), [(1, ("put", "c", "it's"), ("done",))])
        self.assertEqual(world.shards(1), [("", None, 2, "open")])
        self.assertEqual(world.holdings(), [(1, "", None, 2, "open", (("c", "it's"),))])

    def test_without_acts(self):
        for servers, clients in ((1, 0), (3, 2), (MOST_SERVERS, MOST_CLIENTS)):
            world = run_schedule(f"world {servers} {clients}")
            self.assertEqual(look(world, servers, clients), look(world_of(servers, clients), servers, clients))

    def test_a_world_that_cannot_be_created(self):
        for head in (0, 1, 4):
            text = "#\n" * head
            for servers in (0, MOST_SERVERS + 1, GREATEST):
                for clients in (0, 1, MOST_CLIENTS + 1):
                    self.check_bad(text + f"world {servers} {clients}\nround\ntick 0", head + 1, "servers")
            for clients in (MOST_CLIENTS + 1, GREATEST):
                self.check_bad(text + f"world 1 {clients}\ntick 0", head + 1, "clients")

    def test_acts_that_are_not_possible(self):
        for line, reason in (("tick 0", "number"), ("calm 1001", "number"), ("submit -2 ('get','c')", "client"),
                             ("deliver 0", "position"), ("lose 0", "position"), ("double 5", "position"),
                             ("move 1", "position"), ("order 2 ()", "server"), ("order 0 ()", "letter"),
                             ("order 0 ('receipt','',*,1)", "letter"), ("arm 2 0", "server"), ("crash 2", "server"),
                             ("restart 0 0", "state"), ("crash 0\narm 0 0", "state")):
            for head in ("", "round\n\n# a\nround\n"):
                text = "world 2 1\n" + head + line
                self.check_bad(text + "\ntick 0", text.count("\n") + 1, reason)

    def test_a_text_that_is_no_schedule(self):
        for text, line, reason in (("", 0, "world"), ("world 1 1\n\nfly", 3, "verb"),
                                   ("world 0 0\ntick x", 2, "number"), ("world 1 1\ntick 0\ntick\t", 3, "character")):
            self.check_bad(text, line, reason)


if __name__ == "__main__":
    unittest.main()

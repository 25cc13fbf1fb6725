import random
import unittest

from boundstone.judge import answer_fault, cover_fault, home_fault, judge, lost_fault, request_fault
from boundstone.limits import MOST_NUMBER
from boundstone.operations import apply

GET = ("get", "b")
PUT = ("put", "b", "x")
OPERATIONS = (GET, PUT, ("drop", "b"), ("swap", "b", "x", "y"), ("page", "b", 5))

# Done events whose records do no request, although they have some of its parts.
IDLE = tuple(("done", 3, 0, record) for record in (
    ("opened", "", None, 1, (("b", "x"),), ((-1, 1, ("done",)),)), ("closed", "", None, 1, 1), ("gone", "", None, 1),
    ("split", "", None, 1, "b"), ("join", "", "b", 1, None, 1), ("had", "", None, 1), (), ("did",), None, "did",
    ("did", "", 1, -1, 1), ("did", "", 1, -1, 1, PUT, 1), ["did", "", 1, -1, 1, PUT], ("DID", "", 1, -1, 1, PUT),
    ("did", "", 1, -1, 1, None), ("did", "", 1, -1, 1, ("get",)), ("did", "", 1, -1, 1, ["put", "b", "x"]),
))
CRASH = ("crash", 3, 0)


def call(client, number, op, time=3):
    return ("call", time, client, number, op)


def accept(client, number, answer, time=3):
    return ("accept", time, client, number, answer)


def done(client, number, op, server=0, low="", epoch=1, time=3):
    return ("done", time, server, ("did", low, epoch, client, number, op))


def shard(low, high, epoch=1, state="open", server=0, **items):
    return (server, low, high, epoch, state, tuple(sorted(items.items())))


class RequestTest(unittest.TestCase):
    def check(self, fault, *events):
        events = list(events)
        before = list(events)
        self.assertEqual(request_fault(events), fault)
        self.assertEqual(events, before)

    def test_no_fault(self):
        self.check(None)
        self.check(None, call(-1, 1, PUT))
        for op in OPERATIONS:
            self.check(None, call(-1, 1, op), done(-1, 1, op))
        self.check(None, call(-1, 1, PUT), call(-2, 1, GET), done(-2, 1, GET), done(-1, 1, PUT), accept(-2, 1, PUT),
                   call(-2, 2, PUT), CRASH, done(-2, 2, PUT, 3, "b", 9))

    def test_uncalled(self):
        self.check(("uncalled", -1, 1), done(-1, 1, PUT))
        self.check(("uncalled", -1, 1), done(-1, 1, PUT), call(-1, 1, PUT))
        self.check(("uncalled", -1, 2), call(-1, 1, PUT), done(-1, 2, PUT))
        self.check(("uncalled", -2, 1), call(-1, 1, PUT), done(-2, 1, PUT))
        for op in OPERATIONS:
            for other in OPERATIONS:
                self.check(None if op == other else ("uncalled", -1, 1), call(-1, 1, op), done(-1, 1, other))
        for op in (("put", "b", "y"), ("put", "c", "x"), ("get", "c")):
            self.check(("uncalled", -1, 1), call(-1, 1, PUT), call(-2, 1, op), call(-1, 2, op), done(-1, 1, op))
        self.check(("uncalled", -1, 1), accept(-1, 1, PUT), done(-1, 1, PUT))

    def test_repeated(self):
        again = (done(-1, 1, PUT), done(-1, 1, PUT, 1), done(-1, 1, PUT, 0, "b", 7), done(-1, 1, PUT, time=9))
        for event in again:
            self.check(("repeated", -1, 1), call(-1, 1, PUT), done(-1, 1, PUT), event)
            self.check(("repeated", -1, 1), call(-1, 1, PUT), done(-1, 1, PUT), CRASH, accept(-1, 1, PUT), event)
        self.check(None, call(-1, 1, PUT), call(-1, 2, PUT), call(-2, 1, PUT), done(-1, 1, PUT), done(-1, 2, PUT),
                   done(-2, 1, PUT))

    def test_several_calls_of_a_number(self):
        calls = (call(-1, 1, PUT), call(-1, 1, GET))
        for op in (PUT, GET):
            self.check(None, *calls, done(-1, 1, op))
        self.check(("repeated", -1, 1), *calls, done(-1, 1, PUT), done(-1, 1, GET))

    def test_uncalled_comes_before_repeated(self):
        self.check(("uncalled", -1, 1), call(-1, 1, PUT), done(-1, 1, PUT), done(-1, 1, GET))

    def test_the_first_event_in_order(self):
        self.check(("repeated", -1, 1), call(-1, 1, PUT), done(-1, 1, PUT), done(-1, 1, PUT), done(-2, 1, PUT))
        self.check(("uncalled", -2, 1), call(-1, 1, PUT), done(-1, 1, PUT), done(-2, 1, PUT), done(-1, 1, PUT))

    def test_events_that_do_no_request(self):
        self.check(None, *IDLE)
        self.check(None, call(-1, 1, PUT), *IDLE, done(-1, 1, PUT), *IDLE)

    def test_clients_and_numbers_that_do_not_fit(self):
        for client in (0, 7, -1000, MOST_NUMBER):
            for number in (0, -3, 17, MOST_NUMBER + 1):
                self.check(("uncalled", client, number), done(client, number, PUT))
                self.check(None, call(client, number, PUT), done(client, number, PUT))
                self.check(("repeated", client, number), call(client, number, PUT), *[done(client, number, PUT)] * 2)


class AnswerCase(unittest.TestCase):
    TABLE = (done(-9, 1, ("put", "b", "x")), done(-9, 2, ("put", "d", "y")), done(-9, 3, ("put", "f", "z")),
             done(-9, 4, ("put", "a", "w")), done(-9, 5, ("drop", "a")))

    def check(self, fault, *events):
        events = list(events)
        before = list(events)
        self.assertEqual(answer_fault(events), fault)
        self.assertEqual(events, before)


class AnswerTest(AnswerCase):
    def check_answer(self, op, *answers):
        """Check that these answers fit, and that all others do not."""
        every = [("done",), ("none",), ("value", "x"), ("value", "y"), ("other", "x"), ("other", "y"),
                 ("page", (), None), ("page", (("b", "x"), ("d", "y"), ("f", "z")), None), (), None, "done",
                 ["done"], ("value",), ("done", 1)]
        for answer in every:
            fault = None if answer in answers else ("answer", -1, 7)
            self.check(fault, *self.TABLE, done(-1, 7, op), accept(-1, 7, answer))

    def test_no_fault(self):
        self.check(None)
        self.check(None, *self.TABLE)
        self.check(None, call(-1, 1, PUT), done(-1, 1, PUT), accept(-1, 1, ("done",)), *IDLE, CRASH)

    def test_each_operation(self):
        self.check_answer(("get", "b"), ("value", "x"))
        self.check_answer(("get", "d"), ("value", "y"))
        self.check_answer(("get", "a"), ("none",))
        self.check_answer(("put", "b", "q"), ("done",))
        self.check_answer(("put", "c", "q"), ("done",))
        self.check_answer(("drop", "b"), ("done",))
        self.check_answer(("drop", "c"), ("none",))
        self.check_answer(("swap", "b", "x", "q"), ("done",))
        self.check_answer(("swap", "b", "y", "q"), ("other", "x"))
        self.check_answer(("swap", "c", "y", "q"), ("none",))
        self.check_answer(("page", "", 5), ("page", (("b", "x"), ("d", "y"), ("f", "z")), None))

    def test_the_table_as_it_was_before(self):
        later = (done(-8, 1, ("put", "b", "q")), done(-8, 2, ("drop", "d")))
        for op, answer in ((("get", "b"), ("value", "x")), (("drop", "d"), ("done",)), (("get", "d"), ("value", "y")),
                           (("swap", "b", "x", "w"), ("done",)),
                           (("page", "", 5), ("page", (("b", "x"), ("d", "y"), ("f", "z")), None))):
            self.check(None, *self.TABLE, done(-1, 7, op), *later, accept(-1, 7, answer))
            self.check(None, *self.TABLE, done(-1, 7, op), accept(-1, 7, answer), *later)
            if op[0] != "drop":
                self.check(("answer", -1, 7), *self.TABLE, *later, done(-1, 7, op), accept(-1, 7, answer))

    def test_missing(self):
        self.check(("missing", -1, 1), accept(-1, 1, ("done",)))
        self.check(("missing", -1, 1), call(-1, 1, PUT), accept(-1, 1, ("done",)), done(-1, 1, PUT))
        self.check(("missing", -1, 2), done(-1, 1, PUT), accept(-1, 2, ("done",)))
        self.check(("missing", -2, 1), done(-1, 1, PUT), accept(-2, 1, ("done",)))
        self.check(("missing", -1, 1), *IDLE, accept(-1, 1, ("done",)))
        # A call is not needed.
        self.check(None, done(-1, 1, PUT), accept(-1, 1, ("done",)))

    def test_the_first_time_counts(self):
        swap = ("swap", "b", "x", "y")
        twice = (done(-9, 1, PUT), done(-1, 1, swap), done(-1, 1, swap))
        self.check(None, *twice, accept(-1, 1, ("done",)))
        self.check(("answer", -1, 1), *twice, accept(-1, 1, ("other", "y")))
        self.check(("answer", -1, 1), done(-1, 1, GET), done(-9, 1, PUT), done(-1, 1, GET),
                   accept(-1, 1, ("value", "x")))
        self.check(None, done(-1, 1, GET), done(-1, 1, PUT), accept(-1, 1, ("none",)))

    def test_each_request_is_executed_as_often_as_it_is_done(self):
        swap = ("swap", "b", "x", "y")
        self.check(None, done(-9, 1, PUT), done(-1, 1, swap), done(-9, 2, PUT), done(-1, 1, swap), done(-2, 1, GET),
                   accept(-2, 1, ("value", "y")))
        self.check(None, done(-1, 1, PUT), done(-2, 1, ("drop", "b")), done(-1, 1, PUT), done(-3, 1, GET),
                   accept(-3, 1, ("value", "x")))

    def test_accepts_that_come_twice(self):
        self.check(None, done(-1, 1, PUT), accept(-1, 1, ("done",)), accept(-1, 1, ("done",)))
        self.check(("answer", -1, 1), done(-1, 1, PUT), accept(-1, 1, ("done",)), accept(-1, 1, ("none",)))

    def test_the_first_accept_in_order(self):
        self.check(("missing", -2, 1), done(-1, 1, PUT), accept(-2, 1, ("done",)), accept(-1, 1, ("none",)))
        self.check(("answer", -1, 1), done(-1, 1, PUT), accept(-1, 1, ("none",)), accept(-2, 1, ("done",)))
        self.check(("answer", -1, 1), done(-1, 1, PUT), done(-2, 1, PUT), accept(-1, 1, ("none",)),
                   accept(-2, 1, ("none",)))

    def test_clients_and_numbers_that_do_not_fit(self):
        for client in (0, 7, -1000):
            for number in (0, -3, 17, MOST_NUMBER + 1):
                self.check(("missing", client, number), accept(client, number, ("done",)))
                self.check(None, done(client, number, PUT), accept(client, number, ("done",)))
                self.check(("answer", client, number), done(client, number, PUT), accept(client, number, ("none",)))


class PageTest(AnswerCase):
    B, D, F = ("b", "x"), ("d", "y"), ("f", "z")

    def check_page(self, low, limit, answer, fits):
        fault = None if fits else ("answer", -1, 7)
        self.check(fault, *self.TABLE, done(-1, 7, ("page", low, limit)), accept(-1, 7, answer))

    def test_pages_that_are_cut(self):
        for low in ("", "a", "b"):
            for following, pairs in (("d", (self.B,)), ("c", (self.B,)), ("e", (self.B, self.D)),
                                     ("f", (self.B, self.D)), ("fa", (self.B, self.D, self.F)),
                                     ("z", (self.B, self.D, self.F)), (None, (self.B, self.D, self.F)),
                                     ("ba", (self.B,))):
                for limit in range(1, 6):
                    self.check_page(low, limit, ("page", pairs, following), len(pairs) <= limit)
                self.check_page(low, 5, ("page", pairs[:-1], following), False)
                self.check_page(low, 5, ("page", pairs[1:], following), False)
                self.check_page(low, 5, ("page", pairs + (("g", "x"),), following), False)
                self.check_page(low, 5, ("page", list(pairs), following), False)
                self.check_page(low, 5, ("page", pairs + (("a", "w"),), following), False)
                if len(pairs) > 1:
                    self.check_page(low, 5, ("page", pairs[::-1], following), False)

    def test_empty_pages(self):
        for low, following in (("", "a"), ("", "b"), ("c", "d"), ("g", None), ("ba", "c"), ("g", "z")):
            self.check_page(low, 1, ("page", (), following), True)
            self.check_page(low, 1, ("page", (("c", "x"),), following), False)
        for low, following in (("", None), ("", "ba"), ("d", None), ("f", "fa")):
            self.check_page(low, 1, ("page", (), following), False)

    def test_the_next_bound(self):
        for low in ("a", "b", "c"):
            for following in ("", "a", "aa", "b", "c"):
                pairs = tuple(pair for pair in (self.B,) if low <= pair[0] < following)
                self.check_page(low, 5, ("page", pairs, following), following > low)
        for following in (0, 1, True, False, (), ("z",), ["z"], b"z", 1.5):
            for pairs in ((), (self.B, self.D, self.F)):
                self.check_page("", 5, ("page", pairs, following), False)

    def test_other_values(self):
        pairs = (self.B, self.D, self.F)
        for answer in (("page", ("b", "x"), None), ("page", (("b", "y"), self.D, self.F), None),
                       ("page", (["b", "x"], self.D, self.F), None), ("page", {"b": "x"}, None), ("page", None, None),
                       ("page", pairs), ("page", pairs, None, None), ("pages", pairs, None), ("page",),
                       ["page", pairs, None], ("value", pairs, None), ("done",), (), None, "page"):
            self.check_page("", 5, answer, False)
        self.check_page("", 5, ("page", pairs, None), True)
        self.check_page("", 2, ("page", pairs, None), False)

    def test_a_page_changes_nothing(self):
        self.check(None, *self.TABLE, done(-1, 7, ("page", "", 1)), done(-1, 8, ("page", "", 5)),
                   accept(-1, 8, ("page", (self.B, self.D, self.F), None)))

    def test_answers_that_are_executed(self):
        """Whatever a table or one shard of it answers fits, and other answers do not."""
        chance = random.Random(3)
        for _ in range(200):
            table, events = {}, []
            for number in range(1, 40):
                key = chance.choice("abcdefgh")
                op = chance.choice((("get", key), ("put", key, chance.choice("xy")), ("drop", key),
                                    ("swap", key, "x", "y"), ("page", key, chance.randint(1, 4)), ("page", "", 3)))
                high = chance.choice((None, "d", "h"))
                if op[0] == "page" and high is not None and high > op[1]:
                    part = {key: table[key] for key in table if key < high}
                    answer = apply(part, op, high)
                else:
                    answer = apply(table, op, None)
                events.extend([done(-1, number, op), accept(-1, number, answer)])
            self.check(None, *events)
            at = chance.randrange(39) * 2 + 1
            for wrong in (("done",), ("none",), ("value", "x")):
                if events[at][4] != wrong:
                    self.check(("answer",) + events[at][2:4], *events[:at], accept(-1, at // 2 + 1, wrong),
                               *events[at + 1:])


class HomeTest(unittest.TestCase):
    def check(self, fault, *holdings):
        holdings = list(holdings)
        before = list(holdings)
        self.assertEqual(home_fault(holdings), fault)
        self.assertEqual(holdings, before)

    def test_no_fault(self):
        self.check(None)
        self.check(None, shard("", None))
        self.check(None, shard("", "b"), shard("b", "d", server=1), shard("d", None))
        self.check(None, shard("d", None), shard("b", "d", server=1), shard("", "b"))
        self.check(None, shard("", "b"), shard("f", None, server=1))

    def test_a_common_place(self):
        for one, other, place in ((("", None), ("", None), ""), (("", "b"), ("a", None), "a"),
                                  (("b", "f"), ("d", "h"), "d"), (("b", None), ("c", "d"), "c"),
                                  (("", "m"), ("", "b"), ""), (("b", "d"), ("b", "d"), "b")):
            for first, second in ((one, other), (other, one)):
                self.check(("home", 3, 5, place), shard(*first, server=3), shard(*second, server=5))
                self.check(("home", 4, 4, place), shard(*first, server=4), shard(*second, epoch=9, server=4))

    def test_closed_shards_do_not_count(self):
        for state in (0, 1, 5, MOST_NUMBER):
            self.check(None, shard("", None, state=state), shard("", None, 2))
            self.check(None, shard("", None), shard("b", "d", 2, state))
            self.check(None, shard("", None, state=state), shard("", None, state=state))
            self.check(("home", 1, 3, "c"), shard("b", "d", server=1), shard("b", "d", 2, state, 2),
                       shard("c", "f", server=3))

    def test_the_first_pair_in_order(self):
        self.check(("home", 0, 2, "b"), shard("", "d", server=0), shard("f", None, server=1), shard("b", "c", server=2),
                   shard("m", "p", server=3), shard("a", "c", server=4))
        self.check(("home", 1, 2, "m"), shard("", "d", server=0), shard("f", None, server=1), shard("m", "p", server=2),
                   shard("m", "p", server=3))
        self.check(("home", 0, 3, "c"), shard("c", "d", server=0), shard("f", "h", server=1), shard("g", "h", server=2),
                   shard("a", "f", server=3))


class CoverTest(unittest.TestCase):
    def check(self, fault, *holdings):
        for rows in (list(holdings), list(holdings)[::-1]):
            before = list(rows)
            self.assertEqual(cover_fault(rows), fault)
            self.assertEqual(rows, before)

    def test_no_fault(self):
        self.check(None, shard("", None))
        self.check(None, shard("", "b"), shard("b", None))
        self.check(None, shard("", "b", 3), shard("b", "d", 1, 2), shard("d", None, 2))
        self.check(None, shard("", None, MOST_NUMBER, 7))

    def test_gaps(self):
        self.check(("gap", ""))
        self.check(("gap", ""), shard("b", None))
        self.check(("gap", "b"), shard("", "b"))
        self.check(("gap", "b"), shard("", "b"), shard("d", None))
        self.check(("gap", "d"), shard("", "b"), shard("b", "d"), shard("f", None))
        self.check(("gap", "m"), shard("", "b"), shard("b", "d"), shard("c", "m", 3))

    def test_equal_epochs(self):
        self.check(("twice", ""), shard("", None), shard("", None))
        self.check(("twice", "b"), shard("", None), shard("b", "d"))
        self.check(("twice", "b"), shard("", "d", 3), shard("b", None, 3, 1))
        self.check(("twice", "d"), shard("", "d", 2), shard("d", None, 3), shard("d", "f", 3), shard("d", "f", 1))

    def test_older_shards_do_not_count(self):
        self.check(None, shard("", None, 2), shard("b", "d", 1), shard("b", "d", 1))
        self.check(None, shard("", "m", 3), shard("m", None, 3), shard("", None, 2, 1), shard("", None, 1, 1))
        self.check(None, shard("", "m", 2), shard("m", None, 2), shard("f", "p", 3), shard("f", "p", 2, 7))
        self.check(("twice", "p"), shard("", None, 2), shard("f", "p", 3), shard("k", None, 2))

    def test_the_first_place_in_order(self):
        self.check(("gap", ""), shard("b", None), shard("c", None))
        self.check(("twice", "b"), shard("", "d"), shard("b", "d"), shard("f", None))
        self.check(("gap", "d"), shard("", "d"), shard("f", None), shard("f", None))
        # Without a shard that begins there, the high bound of one is looked at, too.
        self.check(("twice", "d"), shard("", None, 2), shard("b", "d", 3), shard("b", None, 2))


class LostTest(unittest.TestCase):
    EVENTS = (done(-1, 1, ("put", "b", "x")), done(-1, 2, ("put", "d", "y")), done(-1, 3, ("put", "f", "z")),
              done(-1, 4, ("drop", "f")), done(-1, 5, ("swap", "d", "y", "v")), done(-1, 6, ("page", "", 9)))

    def check(self, fault, *holdings, events=EVENTS):
        holdings, events = list(holdings), list(events)
        before = (list(holdings), list(events))
        self.assertEqual(lost_fault(holdings, events), fault)
        self.assertEqual((holdings, events), before)

    def test_no_fault(self):
        self.check(None, events=())
        self.check(None, shard("", None), events=())
        self.check(None, shard("", None, b="x", d="v"))
        self.check(None, shard("c", None, 7, 3, d="v"), shard("", "c", 4, b="x"))
        # Keys that no event and no shard has are not looked at.
        self.check(None, shard("b", "ba", b="x"), shard("d", "da", d="v"))

    def test_no_shard_has_the_key(self):
        self.check(("lost", "b"))
        self.check(("lost", "b"), shard("c", None, d="v"))
        self.check(("lost", "d"), shard("", "d", b="x"))
        self.check(("lost", "d"), shard("", "c", b="x"), shard("f", None))

    def test_another_value_or_none(self):
        self.check(("lost", "b"), shard("", None, b="y", d="v"))
        self.check(("lost", "b"), shard("", None, d="v"))
        self.check(("lost", "d"), shard("", None, b="x", d="y"))
        self.check(("lost", "d"), shard("", None, b="x"))
        self.check(("lost", "f"), shard("", None, b="x", d="v", f="z"))
        self.check(("lost", "a"), shard("", None, a="x", b="x", d="v"))
        self.check(("lost", "a"), shard("", None, a="x"), events=())
        self.check(("lost", "b"), shard("", None, b=""), events=())
        self.check(None, shard("", None, b=""), events=(done(-1, 1, ("put", "b", "")),))
        self.check(("lost", "b"), shard("", None), events=(done(-1, 1, ("put", "b", "")),))

    def test_the_newest_shard_counts(self):
        old, new = shard("", None, 3, b="x", d="y", f="z"), shard("", None, 4, 1, b="x", d="v")
        self.check(None, old, new)
        self.check(None, new, old)
        self.check(("lost", "d"), shard("", None, 3, b="x", d="v"), shard("c", "m", 4, d="y"))
        self.check(("lost", "d"), shard("c", "m", 4), shard("", None, 3, b="x", d="v"))
        self.check(None, shard("", None, 3, b="x", d="y", f="z"), shard("c", "m", 4, d="v"))

    def test_the_first_of_equal_epochs_counts(self):
        right, wrong = shard("", None, 3, b="x", d="v"), shard("", None, 3, 1, 2, b="q", d="v")
        self.check(None, right, wrong)
        self.check(("lost", "b"), wrong, right)
        self.check(None, shard("", None, 2), right, wrong)

    def test_keys_of_all_shards(self):
        # The newest shard of a key has to agree with the table also about a key that only an old one has.
        self.check(None, shard("", None, 3, b="x", d="v"), shard("", None, 2, 1, a="q", g="q"))
        # An item outside of the range of its shard is no reason to believe that it is held.
        self.check(("lost", "m"), shard("", None, 3, b="x", d="v", m="q"))
        self.check(("lost", "m"), shard("", "f", 3, b="x", d="v"), shard("f", "g", 1, m="q"))
        self.check(None, shard("", None, 3, b="x", d="v"), shard("f", "g", 1, m="q"))

    def test_the_first_key_in_order(self):
        self.check(("lost", "a"), shard("", None, 3, z="q", a="q"))
        self.check(("lost", "b"), shard("", None, 3, z="q", d="q"))
        self.check(("lost", "d"), shard("", None, 3, b="x", e="q"))

    def test_each_request_is_executed_as_often_as_it_is_done(self):
        put, drop = done(-1, 1, ("put", "b", "x")), done(-1, 2, ("drop", "b"))
        self.check(None, shard("", None), events=(put, drop))
        self.check(None, shard("", None, b="x"), events=(put, drop, put))
        self.check(("lost", "b"), shard("", None), events=(put, drop, put))

    def test_only_what_is_done_counts(self):
        self.check(None, shard("", None, b="x", d="v"), events=self.EVENTS + IDLE + (
            call(-2, 1, ("put", "c", "x")), CRASH, accept(-2, 1, ("done",))))


class JudgeTest(unittest.TestCase):
    def check(self, events, holdings, *faults):
        before = (list(events), list(holdings))
        found = judge(events, holdings)
        self.assertEqual(found, list(faults))
        self.assertIs(found.__class__, list)
        self.assertEqual((events, holdings), before)

    def test_no_fault(self):
        self.check([], [shard("", None)])
        self.check([call(-1, 1, PUT), done(-1, 1, PUT), accept(-1, 1, ("done",)), CRASH],
                   [shard("", "c", 2, b="x"), shard("c", None, 2), shard("", None, 1, 1)])

    def test_each_fault_alone(self):
        good = [call(-1, 1, PUT), done(-1, 1, PUT), accept(-1, 1, ("done",))]
        rows = [shard("", "c", b="x"), shard("c", None)]
        self.check(good[1:], rows, ("uncalled", -1, 1))
        self.check(good[:2] + good[1:], rows, ("repeated", -1, 1))
        self.check(good + [accept(-1, 2, ("done",))], rows, ("missing", -1, 2))
        self.check(good + [accept(-1, 1, ("none",))], rows, ("answer", -1, 1))
        self.check(good, rows + [shard("m", "p", 2, server=4)], ("home", 0, 4, "m"))
        self.check(good, [shard("", "c", b="x"), shard("f", None)], ("gap", "c"))
        self.check(good, rows + [shard("m", "p", 1, 4)], ("twice", "m"))
        self.check(good, [shard("", "c", b="y"), shard("c", None)], ("lost", "b"))

    def test_all_faults_in_order(self):
        self.check([done(-1, 1, PUT), accept(-2, 1, ("done",))], [shard("", "d"), shard("c", "f", server=1)],
                   ("uncalled", -1, 1), ("missing", -2, 1), ("home", 0, 1, "c"), ("twice", "c"), ("lost", "b"))
        self.check([done(-1, 1, PUT), accept(-1, 1, ("none",))], [],
                   ("uncalled", -1, 1), ("answer", -1, 1), ("gap", ""), ("lost", "b"))
        self.check([done(-1, 1, PUT)], [shard("", None, b="x"), shard("", None, 2)],
                   ("uncalled", -1, 1), ("home", 0, 0, ""), ("lost", "b"))
        self.check([], [], ("gap", ""))


if __name__ == "__main__":
    unittest.main()

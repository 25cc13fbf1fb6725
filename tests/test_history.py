import random
import unittest

from boundstone.errors import BadSchedule
from boundstone.history import History
from boundstone.limits import MOST_NUMBER
from parts import changed
from values import NO_INTEGERS, NO_STRINGS, NO_TUPLES, Odd

GET = ("get", "a")
NONE = ("none",)

CALL = ("call", 5, -1, 1, GET)
ACCEPT = ("accept", 5, -1, 1, NONE)
DONE = ("done", 5, 0, ("did", "", 1, -1, 1, GET))
CRASH = ("crash", 5, 0)
EVENTS = (CALL, ACCEPT, DONE, CRASH)

# Values that a client, a server, a record, an operation or an answer may be, because they are not looked at.
ANYTHING = (None, True, 0, 7, -1000, 10 ** 40, "", "x", (), ("a",), [], ["a"], {}, {"a": 1}, 1.5, b"a", len, object())


def history_of(*events):
    history = History()
    for event in events:
        history.add(event)
    return history


class HistoryTest(unittest.TestCase):
    def check_good(self, history, event):
        before = history.events()
        self.assertIsNone(history.add(event))
        self.assertEqual(history.events(), before + [event])

    def check_bad(self, history, event, reason):
        before = history.events()
        with self.assertRaises(BadSchedule) as caught:
            history.add(event)
        self.assertEqual((caught.exception.line, caught.exception.reason), (0, reason))
        after = history.events()
        self.assertEqual(len(after), len(before))
        for one, other in zip(before, after):
            self.assertIs(one, other)


class AddTest(HistoryTest):
    def test_an_empty_history(self):
        self.assertEqual(History().events(), [])
        self.assertIs(History().events().__class__, list)

    def test_each_event(self):
        history = History()
        for event in EVENTS:
            self.check_good(history, event)
        self.assertEqual(history.events(), list(EVENTS))

    def test_events_is_a_new_list(self):
        history = history_of(*EVENTS)
        found = history.events()
        found.clear()
        self.assertEqual(history.events(), list(EVENTS))

    def test_histories_are_independent(self):
        history_of(*EVENTS)
        self.check_bad(History(), ACCEPT, "accept")
        self.check_good(History(), CALL)


class EventTest(HistoryTest):
    def test_values_that_are_no_tuples(self):
        for value in NO_TUPLES + ((), list(CALL), list(CRASH), "crash"):
            self.check_bad(History(), value, "event")

    def test_kinds_that_are_none(self):
        for event in EVENTS:
            for kind in NO_STRINGS + ("", "calls", "Call", "did", "tick", "opened"):
                self.check_bad(History(), changed(event, 0, kind), "event")

    def test_another_length(self):
        for event in EVENTS:
            for length in range(1, len(event)):
                self.check_bad(history_of(CALL), event[:length], "event")
            for more in ANYTHING:
                self.check_bad(history_of(CALL), event + (more,), "event")

    def test_times(self):
        for event in (CALL, DONE, CRASH):
            for time in (0, 1, 1000, MOST_NUMBER):
                self.check_good(History(), changed(event, 1, time))
        for event in EVENTS:
            for time in NO_INTEGERS + (-1, -MOST_NUMBER, MOST_NUMBER + 1, 10 ** 40):
                self.check_bad(History(), changed(event, 1, time), "event")

    def test_all_else_is_not_checked(self):
        for value in ANYTHING:
            for at in (2, 4):
                self.check_good(History(), changed(CALL, at, value))
            self.check_good(history_of(CALL), changed(ACCEPT, 4, value))
            self.check_good(history_of(changed(CALL, 2, value)), changed(ACCEPT, 2, value))
            self.check_bad(history_of(changed(CALL, 2, value)), changed(CALL, 2, value), "call")
            for at in (2, 3):
                self.check_good(History(), changed(DONE, at, value))
            self.check_good(History(), changed(CRASH, 2, value))
        self.check_good(History(), changed(CALL, 4, Odd()))
        self.check_good(History(), changed(DONE, 3, Odd()))


class TimeTest(HistoryTest):
    def test_times_that_fall(self):
        for first in (CALL, DONE, CRASH):
            for event in EVENTS:
                for time in (0, 1, 4):
                    self.check_bad(history_of(first), changed(event, 1, time), "time")

    def test_times_that_stay_or_rise(self):
        for time in (5, 6, MOST_NUMBER):
            history = history_of(CALL)
            for event in (ACCEPT, DONE, CRASH, ("call", 0, -1, 2, GET)):
                self.check_good(history, changed(event, 1, time))

    def test_the_event_just_before_counts(self):
        history = history_of(CRASH, changed(CRASH, 1, 9))
        for time in (5, 8):
            self.check_bad(history, changed(CRASH, 1, time), "time")
        self.check_good(history, changed(CRASH, 1, 9))

    def test_a_refused_event_is_no_event(self):
        history = history_of(CRASH)
        self.check_bad(history, ("accept", 9, -1, 1, NONE), "accept")
        self.check_bad(history, ("call", 9, -1, 2, GET), "call")
        self.check_good(history, CRASH)


class CallTest(HistoryTest):
    def test_the_first_number(self):
        self.check_good(History(), CALL)
        for number in NO_INTEGERS + (0, 2, 3, -1, MOST_NUMBER):
            self.check_bad(History(), changed(CALL, 3, number), "call")

    def test_the_next_number(self):
        history = history_of(CALL, ACCEPT)
        for number in NO_INTEGERS + (0, 1, 3, -1, MOST_NUMBER):
            self.check_bad(history, changed(CALL, 3, number), "call")
        for number in range(2, 30):
            self.check_good(history, changed(CALL, 3, number))
            self.check_good(history, changed(ACCEPT, 3, number))

    def test_while_a_call_is_open(self):
        for history in (history_of(CALL), history_of(CALL, ACCEPT, changed(CALL, 3, 2))):
            for number in (1, 2, 3):
                self.check_bad(history, changed(CALL, 3, number), "call")
        history = history_of(CALL)
        self.check_bad(history, changed(CALL, 3, 2), "call")
        self.check_good(history, ACCEPT)
        self.check_good(history, changed(CALL, 3, 2))

    def test_clients_do_not_disturb_each_other(self):
        history = history_of(CALL)
        for client in (-2, -100, 1, 0):
            self.check_bad(history, ("call", 5, client, 2, GET), "call")
            self.check_good(history, ("call", 5, client, 1, GET))
        self.check_good(history, ("accept", 5, -100, 1, NONE))
        self.check_good(history, ("call", 5, -100, 2, GET))
        self.check_bad(history, ("call", 5, -2, 2, GET), "call")
        self.check_good(history, ACCEPT)


    def test_many_clients_by_turns(self):
        chance = random.Random(1)
        history, numbers, waits = History(), {}, {}
        for _ in range(2000):
            client = chance.randint(-6, -1)
            number = numbers.get(client, 0)
            if chance.random() < 0.5:
                event, reason = ("call", 5, client, number + 1, GET), "call" if waits.get(client) else None
            else:
                event, reason = ("accept", 5, client, number, NONE), None if waits.get(client) else "accept"
            if reason:
                self.check_bad(history, event, reason)
            else:
                self.check_good(history, event)
                numbers[client], waits[client] = event[3], event[0] == "call"


class AcceptTest(HistoryTest):
    def test_without_a_call(self):
        for number in NO_INTEGERS + (0, 1, 2, -1):
            self.check_bad(History(), changed(ACCEPT, 3, number), "accept")
            self.check_bad(history_of(CALL), ("accept", 5, -2, number, NONE), "accept")

    def test_another_number(self):
        history = history_of(CALL)
        for number in NO_INTEGERS + (0, 2, -1, MOST_NUMBER):
            self.check_bad(history, changed(ACCEPT, 3, number), "accept")
        self.check_good(history, ACCEPT)
        history = history_of(CALL, ACCEPT, changed(CALL, 3, 2))
        for number in (0, 1, 3):
            self.check_bad(history, changed(ACCEPT, 3, number), "accept")
        self.check_good(history, changed(ACCEPT, 3, 2))

    def test_a_second_time(self):
        history = history_of(CALL, ACCEPT)
        for number in (0, 1, 2):
            self.check_bad(history, changed(ACCEPT, 3, number), "accept")

    def test_events_in_between(self):
        history = history_of(CALL, DONE, CRASH, ("call", 5, -2, 1, GET), ("accept", 5, -2, 1, NONE))
        self.check_good(history, ACCEPT)


class OrderTest(HistoryTest):
    def test_the_event_comes_first(self):
        history = history_of(CRASH)
        self.check_bad(history, ("call", 4, -1, 7), "event")
        self.check_bad(history, ("accept", 4, -1, 7), "event")
        self.check_bad(history, ("call", -1, -1, 7, GET), "event")
        self.check_bad(history, ("accept", True, -1, 7, NONE), "event")

    def test_the_time_comes_second(self):
        self.check_bad(history_of(CRASH), ("call", 4, -1, 7, GET), "time")
        self.check_bad(history_of(CRASH), ("accept", 4, -1, 7, NONE), "time")


if __name__ == "__main__":
    unittest.main()

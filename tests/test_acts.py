import unittest

from boundstone.acts import MOST_TICKS, check_act
from boundstone.errors import BadSchedule
from boundstone.limits import MOST_NUMBER
from parts import changed
from values import NO_INTEGERS, NO_STRINGS, NO_TUPLES, Odd

# Each act, and what each of its items is: t for a number of ticks, n for another number, x for anything.
ACTS = (
    (("tick", 3), "-t"),
    (("submit", -1, ("get", "a")), "-xx"),
    (("deliver", 3), "-n"),
    (("round",), "-"),
    (("calm", 3), "-t"),
    (("lose", 3), "-n"),
    (("double", 3), "-n"),
    (("move", 3), "-n"),
    (("order", 2, ("move", "b", "d", 3, 1)), "-xx"),
    (("arm", 2, 3), "-xn"),
    (("crash", 2), "-x"),
    (("restart", 2, 3), "-xn"),
)

NUMBERS = (-1, 0, 1, 2, MOST_TICKS - 1, MOST_TICKS, MOST_TICKS + 1, MOST_NUMBER - 1, MOST_NUMBER, MOST_NUMBER + 1,
           -MOST_NUMBER, 10 ** 40)


class ActTest(unittest.TestCase):
    def check_bad(self, act, reason):
        with self.assertRaises(BadSchedule) as caught:
            check_act(act)
        self.assertEqual((caught.exception.line, caught.exception.reason), (0, reason))

    def test_the_limit(self):
        self.assertEqual(MOST_TICKS, 1000)

    def test_each_act(self):
        for act, _ in ACTS:
            self.assertIsNone(check_act(act))

    def test_too_few_and_too_many_items(self):
        for act, _ in ACTS:
            for length in range(1, len(act)):
                self.check_bad(act[:length], "act")
            for more in (None, 1, "a", (), ("get", "a")):
                self.check_bad(act + (more,), "act")
                self.check_bad(act + (more, 1), "act")

    def test_kinds_that_are_none(self):
        for kind in ("", "ticks", "Tick", "tick ", " tick", "world", "get", "ask", "have", "split", "deliver 1", "#"):
            for items in ((), (1,), (1, 1), (1, ("get", "a"))):
                self.check_bad((kind,) + items, "act")

    def test_kinds_that_are_no_strings(self):
        for kind in NO_STRINGS:
            for items in ((), (1,), (1, 1)):
                self.check_bad((kind,) + items, "act")

    def test_values_that_are_no_tuples(self):
        for value in NO_TUPLES + ((), ["tick", 1], "tick", "round", {"round": 1}):
            self.check_bad(value, "act")

    def test_numbers(self):
        for act, forms in ACTS:
            for at, form in enumerate(forms):
                if form in "nt":
                    least, greatest = (1, MOST_TICKS) if form == "t" else (0, MOST_NUMBER)
                    for number in NUMBERS:
                        if least <= number <= greatest:
                            self.assertIsNone(check_act(changed(act, at, number)))
                        else:
                            self.check_bad(changed(act, at, number), "number")
                    for value in NO_INTEGERS:
                        self.check_bad(changed(act, at, value), "number")

    def test_the_kind_and_the_items_come_first(self):
        for act, forms in ACTS:
            for at, form in enumerate(forms):
                if form in "nt":
                    self.check_bad(changed(act, at, -1) + (0,), "act")
                    self.check_bad(changed(changed(act, at, -1), 0, "none"), "act")

    def test_all_else_is_not_looked_at(self):
        anything = NO_INTEGERS + NO_STRINGS + NO_TUPLES + NUMBERS + ("", "a", ("get",), ("move",), (), [], Odd())
        for act, forms in ACTS:
            for at, form in enumerate(forms):
                if form == "x":
                    for value in anything:
                        self.assertIsNone(check_act(changed(act, at, value)))


if __name__ == "__main__":
    unittest.main()

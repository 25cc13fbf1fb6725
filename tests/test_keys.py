import itertools
import unittest

from boundstone.keys import below, contains, is_bound, is_key, is_range, overlap
from boundstone.limits import MOST_KEY
from values import NO_STRINGS

KEYS = ("a", "z", "m", "az", "za", "abcdefgh", "qrstuvwx", "zzzzzzzz", "a" * MOST_KEY)
NO_BOUNDS = ("a" * (MOST_KEY + 1), "a" * 1000, "A", "Z", "aB", "0", "a1", " ", "a b", "a ", " a",
             "`", "{", "a-b", "a.b", "\n", "a\n", "\x00", "\u00e9", "a\u00e9", "\u00df", "\u0430",
             "\uff41", "\U0001d41a", "'")
SPOTS = ("", "a", "aa", "ab", "b", "ba", "c", "zzzzzzzz")


class KeyTest(unittest.TestCase):
    def test_keys(self):
        for value in KEYS:
            with self.subTest(value):
                self.assertIs(is_key(value), True)
                self.assertIs(is_bound(value), True)

    def test_each_character(self):
        for code in range(400):
            expected = 97 <= code <= 122
            with self.subTest(code):
                self.assertIs(is_key(chr(code)), expected)
                self.assertIs(is_key("a" + chr(code)), expected)
                self.assertIs(is_key(chr(code) + "a"), expected)
                self.assertIs(is_bound(chr(code)), expected)

    def test_each_length(self):
        for length in range(1, MOST_KEY + 1):
            self.assertIs(is_key("q" * length), True)
            self.assertIs(is_bound("q" * length), True)
        for length in (MOST_KEY + 1, MOST_KEY + 2, 100):
            self.assertIs(is_key("q" * length), False)
            self.assertIs(is_bound("q" * length), False)

    def test_the_empty_string_is_a_bound_but_no_key(self):
        self.assertIs(is_key(""), False)
        self.assertIs(is_bound(""), True)

    def test_other_strings(self):
        for value in NO_BOUNDS:
            with self.subTest(value):
                self.assertIs(is_key(value), False)
                self.assertIs(is_bound(value), False)

    def test_values_of_other_kinds(self):
        for value in NO_STRINGS:
            with self.subTest(kind=value.__class__):
                self.assertIs(is_key(value), False)
                self.assertIs(is_bound(value), False)


class RangeTest(unittest.TestCase):
    def test_ranges(self):
        for low, high in (("", None), ("", "a"), ("a", None), ("a", "b"), ("a", "aa"),
                          ("zzzzzzzz", None), ("b", "c"), ("", "zzzzzzzz"), ("ab", "b")):
            with self.subTest((low, high)):
                self.assertIs(is_range(low, high), True)

    def test_equal_bounds(self):
        for bound in ("", "a", "zzzzzzzz"):
            self.assertIs(is_range(bound, bound), False)

    def test_bounds_in_the_wrong_order(self):
        for low, high in (("b", "a"), ("aa", "a"), ("z", "abc")):
            self.assertIs(is_range(low, high), False)

    def test_the_empty_string_is_no_high_bound(self):
        for low in ("", "a", None):
            self.assertIs(is_range(low, ""), False)

    def test_none_is_no_low_bound(self):
        for high in (None, "a", ""):
            self.assertIs(is_range(None, high), False)

    def test_strings_that_are_no_bounds(self):
        for value in NO_BOUNDS:
            with self.subTest(value):
                self.assertIs(is_range(value, None), False)
                self.assertIs(is_range(value, "zzzzzzzz"), False)
                self.assertIs(is_range("", value), False)

    def test_values_of_other_kinds(self):
        for value in NO_STRINGS:
            with self.subTest(kind=value.__class__):
                self.assertIs(is_range(value, "b"), False)
                self.assertIs(is_range(value, None), False)
                self.assertIs(is_range(value, value), False)
                self.assertIs(is_range("", value), value is None)
                self.assertIs(is_range("a", value), value is None)


class ContainsTest(unittest.TestCase):
    def test_at_and_around_the_bounds(self):
        for bound, expected in (("", False), ("a", False), ("azzzzzzz", False), ("b", True),
                                ("ba", True), ("cz", True), ("czzzzzzz", True), ("d", False),
                                ("da", False), ("z", False)):
            with self.subTest(bound):
                self.assertIs(contains("b", "d", bound), expected)

    def test_without_a_high_bound(self):
        self.assertIs(contains("b", None, "b"), True)
        self.assertIs(contains("b", None, "zzzzzzzz"), True)
        self.assertIs(contains("b", None, "azzzzzzz"), False)
        self.assertIs(contains("b", None, ""), False)

    def test_the_empty_string(self):
        self.assertIs(contains("", None, ""), True)
        self.assertIs(contains("", "a", ""), True)
        self.assertIs(contains("", "a", "a"), False)
        self.assertIs(contains("a", "b", ""), False)

    def test_the_widest_range_contains_all_bounds(self):
        for bound in SPOTS:
            self.assertIs(contains("", None, bound), True)


class BelowTest(unittest.TestCase):
    def test_none(self):
        self.assertIs(below(None, None), False)
        for bound in SPOTS:
            self.assertIs(below(None, bound), False)
            self.assertIs(below(bound, None), True)

    def test_bounds(self):
        for one, other in itertools.product(SPOTS, SPOTS):
            with self.subTest((one, other)):
                self.assertIs(below(one, other), SPOTS.index(one) < SPOTS.index(other))

    def test_short_and_long_keys(self):
        self.assertIs(below("b", "azzzzzzz"), False)
        self.assertIs(below("azzzzzzz", "b"), True)
        self.assertIs(below("a", "aaaaaaaa"), True)
        self.assertIs(below("aaaaaaaa", "a"), False)


class OverlapTest(unittest.TestCase):
    def check(self, one, other, expected):
        with self.subTest((one, other)):
            self.assertIs(overlap(*one, *other), expected)
            self.assertIs(overlap(*other, *one), expected)

    def test_equal_ranges(self):
        for one in (("a", "c"), ("", None), ("", "a"), ("c", None)):
            self.check(one, one, True)

    def test_nested_ranges(self):
        self.check(("a", "z"), ("b", "c"), True)
        self.check(("a", "z"), ("a", "c"), True)
        self.check(("a", "z"), ("c", "z"), True)
        self.check(("", None), ("b", "c"), True)
        self.check(("", None), ("b", None), True)
        self.check(("a", None), ("b", "c"), True)

    def test_neighbours(self):
        self.check(("a", "c"), ("c", "e"), False)
        self.check(("a", "c"), ("c", None), False)
        self.check(("", "c"), ("c", None), False)

    def test_ranges_apart(self):
        self.check(("a", "b"), ("c", "d"), False)
        self.check(("", "b"), ("c", None), False)

    def test_ranges_that_share_a_part(self):
        self.check(("a", "c"), ("b", "d"), True)
        self.check(("a", "c"), ("b", None), True)
        self.check(("", "c"), ("bzzzzzzz", "d"), True)
        self.check(("a", None), ("b", None), True)

    def test_against_the_bounds_in_both(self):
        highs = SPOTS[1:] + (None,)
        ranges = [pair for pair in itertools.product(SPOTS, highs) if is_range(*pair)]
        for one, other in itertools.product(ranges, ranges):
            both = [spot for spot in SPOTS if contains(*one, spot) and contains(*other, spot)]
            self.check(one, other, both != [])


class ExampleTest(unittest.TestCase):
    def test_the_examples_of_the_interface(self):
        self.assertIs(contains("b", "d", "cz"), True)
        self.assertIs(contains("", None, ""), True)
        self.assertIs(overlap("a", "c", "c", None), False)


if __name__ == "__main__":
    unittest.main()

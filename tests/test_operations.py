import unittest

from boundstone.errors import BadOperation
from boundstone.limits import MOST_KEY, MOST_PAGE, MOST_VALUE
from boundstone.operations import apply, is_answer, is_operation, is_value, is_within, place
from values import NO_INTEGERS, NO_STRINGS, NO_TUPLES, Odd

OPERATIONS = (
    ("get", "a"), ("get", "zzzzzzzz"),
    ("put", "a", ""), ("put", "abc", "it's"), ("put", "a", "v" * MOST_VALUE),
    ("drop", "a"), ("drop", "abcdefgh"),
    ("swap", "a", "", ""), ("swap", "a", "x", "y"),
    ("swap", "a", "v" * MOST_VALUE, "w" * MOST_VALUE),
    ("page", "", 1), ("page", "a", 2), ("page", "zzzzzzzz", MOST_PAGE),
)

NO_KEYS = ("A", "a1", "a b", " ", "a" * (MOST_KEY + 1), "\u00e9")
NO_VALUES = ("v" * (MOST_VALUE + 1), "\n", "\u00e9", chr(37), "a\x7f")

# Each operation with the places of its parts that are keys, values, bounds and limits.
PARTS = (
    (("get", "a"), "-k"),
    (("put", "a", "x"), "-kv"),
    (("drop", "a"), "-k"),
    (("swap", "a", "x", "y"), "-kvv"),
    (("page", "a", 3), "-bl"),
)

WRONG = {
    "-": NO_STRINGS + ("", "Get", "get ", "got", "value", "done", "ask"),
    "k": NO_STRINGS + NO_KEYS + ("",),
    "b": NO_STRINGS + NO_KEYS,
    "v": NO_STRINGS + NO_VALUES,
    "l": NO_INTEGERS + (0, -1, MOST_PAGE + 1, 10 ** 40),
}

PAIRS = (("a", "x"), ("b", ""), ("ba", "it's"), ("c", "v" * MOST_VALUE))

ANSWERS = (
    ("none",), ("done",), ("value", ""), ("value", "x"), ("value", "v" * MOST_VALUE),
    ("other", ""), ("other", "x"), ("other", "v" * MOST_VALUE),
    ("page", (), None), ("page", (), "a"), ("page", (("a", "x"),), None),
    ("page", (("a", "x"),), "aa"), ("page", PAIRS, None), ("page", PAIRS, "ca"),
)


def changed(value, at, part):
    return value[:at] + (part,) + value[at + 1:]


def key_number(number):
    """The keys of rising numbers are ascending."""
    return chr(97 + number // 26) + chr(97 + number % 26)


def page(count):
    return tuple((key_number(number), "v") for number in range(count))


class ValueTest(unittest.TestCase):
    def test_values(self):
        for value in ("", " ", "a", "it's", "~", "v" * (MOST_VALUE - 1), "v" * MOST_VALUE,
                      "'" * MOST_VALUE):
            self.assertIs(is_value(value), True)

    def test_other_strings(self):
        for value in NO_VALUES:
            self.assertIs(is_value(value), False)

    def test_values_of_other_kinds(self):
        for value in NO_STRINGS:
            with self.subTest(kind=value.__class__):
                self.assertIs(is_value(value), False)


class OperationTest(unittest.TestCase):
    def check_wrong(self, value):
        self.assertIs(is_operation(value), False)
        with self.assertRaises(BadOperation):
            place(value)

    def test_operations(self):
        for op in OPERATIONS:
            with self.subTest(op):
                self.assertIs(is_operation(op), True)
                self.assertEqual(place(op), op[1])

    def test_one_part_odd(self):
        for op, forms in PARTS:
            for at, form in enumerate(forms):
                for part in WRONG[form]:
                    with self.subTest(op[0], at=at, kind=part.__class__):
                        self.check_wrong(changed(op, at, part))

    def test_the_low_of_a_page_may_be_empty_and_a_key_may_not(self):
        self.assertIs(is_operation(("page", "", 3)), True)
        self.assertEqual(place(("page", "", 3)), "")
        for op in (("get", ""), ("put", "", "x"), ("drop", ""), ("swap", "", "x", "y")):
            self.check_wrong(op)

    def test_the_range_of_the_place(self):
        for op, low, high, expected in (
            (("get", "b"), "b", "c", True), (("put", "bz", "x"), "b", "c", True), (("drop", "c"), "b", "c", False),
            (("swap", "azzzzzzz", "x", "y"), "b", "c", False), (("page", "", 1), "", "a", True),
            (("page", "", 1), "a", None, False), (("page", "zzzzzzzz", 1), "a", None, True),
        ):
            self.assertIs(is_within(op, low, high), expected)
        with self.assertRaises(BadOperation):
            is_within(("get",), "", None)

    def test_the_limit_of_a_page(self):
        for limit in range(1, MOST_PAGE + 1):
            self.assertIs(is_operation(("page", "a", limit)), True)
        for limit in (-1, 0, MOST_PAGE + 1, MOST_PAGE + 2):
            self.check_wrong(("page", "a", limit))

    def test_one_part_left_out_or_added(self):
        for op, _ in PARTS:
            for at in range(len(op)):
                with self.subTest(op[0], left_out=at):
                    self.check_wrong(op[:at] + op[at + 1:])
            for part in ("a", "x", 3, None, ()):
                with self.subTest(op[0], added=part):
                    self.check_wrong(op + (part,))

    def test_parts_of_other_operations(self):
        for value in (("get", "a", "x"), ("put", "a"), ("swap", "a", "x"), ("page", "a"),
                      ("page", "a", "x"), ("put", "a", 3), (), ("a",), ("a", "get"), (("get", "a"),),
                      ("page", None, 3), ("page", 3, "a")):
            self.check_wrong(value)

    def test_values_that_are_no_tuples(self):
        for value in NO_TUPLES:
            with self.subTest(kind=value.__class__):
                self.check_wrong(value)

    def test_answers_are_no_operations(self):
        for value in ANSWERS:
            if value[0] != "page":
                self.check_wrong(value)


class ApplyTest(unittest.TestCase):
    def check(self, before, op, high, answer, after):
        items = dict(before)
        self.assertEqual(apply(items, op, high), answer)
        self.assertEqual(items, after)
        self.assertIs(is_answer(answer), True)

    def check_unchanged(self, before, op, high, answer):
        self.check(before, op, high, answer, dict(before))

    def test_get(self):
        items = {"b": "x", "a": ""}
        self.check_unchanged(items, ("get", "b"), None, ("value", "x"))
        self.check_unchanged(items, ("get", "a"), "m", ("value", ""))
        self.check_unchanged(items, ("get", "c"), None, ("none",))
        self.check_unchanged({}, ("get", "c"), "m", ("none",))

    def test_put(self):
        self.check({}, ("put", "a", "x"), None, ("done",), {"a": "x"})
        self.check({"a": "x", "b": "y"}, ("put", "a", "z"), "m", ("done",), {"a": "z", "b": "y"})
        self.check({"a": "x"}, ("put", "a", "x"), None, ("done",), {"a": "x"})
        self.check({"a": "x"}, ("put", "b", ""), None, ("done",), {"a": "x", "b": ""})

    def test_drop(self):
        self.check({"a": "x", "b": "y"}, ("drop", "a"), None, ("done",), {"b": "y"})
        self.check({"a": ""}, ("drop", "a"), "m", ("done",), {})
        self.check_unchanged({"a": "x"}, ("drop", "b"), None, ("none",))
        self.check_unchanged({}, ("drop", "b"), None, ("none",))

    def test_swap(self):
        items = {"a": "x", "b": "y"}
        self.check(items, ("swap", "a", "x", "z"), None, ("done",), {"a": "z", "b": "y"})
        self.check(items, ("swap", "a", "x", "x"), None, ("done",), items)
        self.check({"a": ""}, ("swap", "a", "", "z"), "m", ("done",), {"a": "z"})
        self.check_unchanged(items, ("swap", "a", "y", "z"), None, ("other", "x"))
        self.check_unchanged(items, ("swap", "a", "z", "x"), None, ("other", "x"))
        self.check_unchanged({"a": ""}, ("swap", "a", "x", "y"), None, ("other", ""))
        self.check_unchanged(items, ("swap", "c", "x", "z"), "m", ("none",))
        self.check_unchanged({}, ("swap", "a", "", ""), None, ("none",))

    def test_page_with_fewer_as_many_and_more_items_than_the_limit(self):
        items = {"d": "3", "a": "0", "c": "2", "b": "1"}
        pairs = (("a", "0"), ("b", "1"), ("c", "2"), ("d", "3"))
        for high in ("m", None):
            for limit in (4, 5, MOST_PAGE):
                self.check_unchanged(items, ("page", "", limit), high, ("page", pairs, high))
            self.check_unchanged(items, ("page", "", 1), high, ("page", pairs[:1], "b"))
            self.check_unchanged(items, ("page", "", 2), high, ("page", pairs[:2], "c"))
            self.check_unchanged(items, ("page", "", 3), high, ("page", pairs[:3], "d"))

    def test_page_from_a_key(self):
        items = {"d": "3", "a": "0", "c": "2", "b": "1"}
        for high in ("m", None):
            self.check_unchanged(items, ("page", "b", 2), high,
                                 ("page", (("b", "1"), ("c", "2")), "d"))
            self.check_unchanged(items, ("page", "b", 3), high,
                                 ("page", (("b", "1"), ("c", "2"), ("d", "3")), high))
            self.check_unchanged(items, ("page", "d", 1), high, ("page", (("d", "3"),), high))

    def test_page_from_between_two_keys_and_from_above_all(self):
        items = {"d": "3", "a": "0", "c": "2", "b": "1"}
        for high in ("m", None):
            self.check_unchanged(items, ("page", "ba", 1), high, ("page", (("c", "2"),), "d"))
            self.check_unchanged(items, ("page", "bzzzzzzz", 2), high,
                                 ("page", (("c", "2"), ("d", "3")), high))
            self.check_unchanged(items, ("page", "da", 2), high, ("page", (), high))
            self.check_unchanged({}, ("page", "", 1), high, ("page", (), high))

    def test_page_of_many_items(self):
        pairs = page(MOST_PAGE + 1)
        items = dict(reversed(pairs))
        self.check_unchanged(items, ("page", "", MOST_PAGE), None,
                             ("page", pairs[:MOST_PAGE], pairs[MOST_PAGE][0]))
        self.check_unchanged(items, ("page", "ab", MOST_PAGE), None, ("page", pairs[1:], None))

    def test_items_in_another_order(self):
        for order in ("abcd", "dcba", "bdac"):
            items = {key: key for key in order}
            self.assertEqual(apply(items, ("page", "b", 2), None),
                             ("page", (("b", "b"), ("c", "c")), "d"))
            self.assertEqual(list(items), list(order))

    def test_one_after_the_other(self):
        items = {}
        self.assertEqual(apply(items, ("put", "b", "x"), "m"), ("done",))
        self.assertEqual(apply(items, ("put", "a", "y"), "m"), ("done",))
        self.assertEqual(apply(items, ("swap", "b", "x", "z"), "m"), ("done",))
        self.assertEqual(apply(items, ("page", "", 5), "m"), ("page", (("a", "y"), ("b", "z")), "m"))
        self.assertEqual(apply(items, ("drop", "a"), "m"), ("done",))
        self.assertEqual(apply(items, ("drop", "a"), "m"), ("none",))
        self.assertEqual(items, {"b": "z"})

    def test_the_examples_of_the_interface(self):
        items = {"b": "x", "a": "y", "c": "z"}
        self.assertEqual(apply(items, ("page", "", 2), "m"), ("page", (("a", "y"), ("b", "x")), "c"))
        self.assertEqual(apply(items, ("page", "b", 2), "m"), ("page", (("b", "x"), ("c", "z")), "m"))
        self.assertEqual(apply(items, ("swap", "a", "x", "w"), "m"), ("other", "y"))


class AnswerTest(unittest.TestCase):
    def test_answers(self):
        for answer in ANSWERS:
            with self.subTest(answer):
                self.assertIs(is_answer(answer), True)

    def test_the_kind_odd(self):
        for answer in ANSWERS:
            for kind in NO_STRINGS + ("", "None", "no", "get", "put", "values", "pages"):
                with self.subTest(answer[0], kind=kind.__class__):
                    self.assertIs(is_answer(changed(answer, 0, kind)), False)

    def test_the_value_odd(self):
        for kind in ("value", "other"):
            for value in NO_STRINGS + NO_VALUES:
                with self.subTest(kind, value_kind=value.__class__):
                    self.assertIs(is_answer((kind, value)), False)

    def test_one_part_left_out_or_added(self):
        for answer in ANSWERS:
            for at in range(len(answer)):
                self.assertIs(is_answer(answer[:at] + answer[at + 1:]), False, answer)
            for part in ("", "a", None, ()):
                self.assertIs(is_answer(answer + (part,)), False, answer)

    def test_next_odd(self):
        for following in NO_STRINGS + NO_KEYS + ("",):
            if following is not None:
                for pairs in ((), (("a", "x"),)):
                    with self.subTest(kind=following.__class__):
                        self.assertIs(is_answer(("page", pairs, following)), False)

    def test_a_key_at_below_and_above_next(self):
        pairs = (("a", "x"), ("c", "y"))
        for following, expected in (("cb", True), ("d", True), (None, True), ("c", False),
                                    ("bzzzzzzz", False), ("b", False), ("a", False)):
            with self.subTest(following):
                self.assertIs(is_answer(("page", pairs, following)), expected)

    def test_the_pairs_odd(self):
        for pairs in NO_TUPLES + ("ab", [("a", "x")], ("a", "x"), ("ab",), (["a", "x"],), ((),),
                                  (("a",),), (("a", "x", "y"),), (("a", "x"), "by"), (("a", "x"), None),
                                  ({"a": "x"},), ((("a", "x"),),), (Odd(),)):
            with self.subTest(kind=pairs.__class__):
                self.assertIs(is_answer(("page", pairs, None)), False)

    def test_a_key_or_a_value_odd(self):
        for key in NO_STRINGS + NO_KEYS + ("",):
            self.assertIs(is_answer(("page", ((key, "x"),), None)), False)
            self.assertIs(is_answer(("page", (("a", "x"), (key, "x")), None)), False)
        for value in NO_STRINGS + NO_VALUES:
            self.assertIs(is_answer(("page", (("a", value),), None)), False)
            self.assertIs(is_answer(("page", (("a", "x"), ("b", value)), None)), False)

    def test_keys_doubled_or_out_of_order(self):
        for keys in ("aa", "ba", "abb", "aab", "acb", "cab", "abcdd", "abdce"):
            pairs = tuple((key, "x") for key in keys)
            with self.subTest(keys):
                self.assertIs(is_answer(("page", pairs, None)), False)
                self.assertIs(is_answer(("page", pairs, "z")), False)
        self.assertIs(is_answer(("page", (("a", "x"), ("a", "y")), None)), False)
        self.assertIs(is_answer(("page", (("a", "x"), ("aa", "x"), ("b", "x")), None)), True)
        self.assertIs(is_answer(("page", (("aa", "x"), ("a", "x")), None)), False)

    def test_the_number_of_pairs(self):
        for count in (0, 1, MOST_PAGE - 1, MOST_PAGE):
            self.assertIs(is_answer(("page", page(count), None)), True)
            self.assertIs(is_answer(("page", page(count), "z")), True)
        for count in (MOST_PAGE + 1, MOST_PAGE + 2):
            self.assertIs(is_answer(("page", page(count), None)), False)
            self.assertIs(is_answer(("page", page(count), "z")), False)

    def test_values_that_are_no_tuples(self):
        for value in NO_TUPLES + (["done"], ["value", "x"]):
            with self.subTest(kind=value.__class__):
                self.assertIs(is_answer(value), False)
        self.assertIs(is_answer(()), False)

    def test_operations_are_no_answers(self):
        for value in OPERATIONS:
            self.assertIs(is_answer(value), False)


if __name__ == "__main__":
    unittest.main()

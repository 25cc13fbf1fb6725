import itertools
import unittest

from boundstone.errors import BadText
from boundstone.limits import MOST_DEPTH, MOST_DIGITS, MOST_LENGTH
from boundstone.texts import decode, encode, is_integer, is_printable
from values import NO_INTEGERS, NO_STRINGS, Odd

# Each plain value with its canonical text.
PLAIN = (
    (None, "*"),
    (0, "0"),
    (7, "7"),
    (-7, "-7"),
    (10, "10"),
    (-10, "-10"),
    (100200, "100200"),
    (10 ** 12, "1000000000000"),
    ("", "''"),
    ("a", "'a'"),
    ("ab cd", "'ab cd'"),
    (" ", "' '"),
    ("'", "''''"),
    ("''", "''''''"),
    ("it's", "'it''s'"),
    ("'a'", "'''a'''"),
    (",", "','"),
    ("(", "'('"),
    (")", "')'"),
    ("(1,2)", "'(1,2)'"),
    ("','", "''','''"),
    ("*", "'*'"),
    ("-0", "'-0'"),
    ("01", "'01'"),
    ("~", "'~'"),
    ("\\", "'\\'"),
    ("\"", "'\"'"),
    ((), "()"),
    ((1,), "(1)"),
    ((None,), "(*)"),
    (("",), "('')"),
    (((),), "(())"),
    (((), ()), "((),())"),
    ((1, 2, 3), "(1,2,3)"),
    ((1, (2, (3, ("4",)))), "(1,(2,(3,('4'))))"),
    ((1, (), "a,b"), "(1,(),'a,b')"),
    ((")", "(", ",", "'"), "(')','(',',','''')"),
    (("put", "ab", -3, None, ("it's",), ()), "('put','ab',-3,*,('it''s'),())"),
    (("put", "it's", -3, None), "('put','it''s',-3,*)"),
)

NOT_PLAIN = (True, False, 1.0, 0.5, 2j, b"", b"a", [], [1], {}, {1: 2}, set(), frozenset(),
             bytearray(b"a"), range(3), len, str, object(), Odd(),
             "\n", "a\n", "\t", "\x00", "\x1f", "\x7f", "\x80", "\u00e9", "\u20ac", chr(37),
             "a" + chr(37) + "b", 10 ** MOST_DIGITS, -10 ** MOST_DIGITS, 10 ** 5000, -10 ** 5000)

NOT_CANONICAL = (
    # nothing, or only a part of a value
    "", "-", "'", "(", ")", ",", "'a", "''a", "'''", "'a''", "(1", "(1,", "('a", "((1)", "(()",
    "-)", "(-)",
    # characters after the end
    "**", "*,", "1,", "1,2", "1*", "*1", "1'a'", "'a'1", "'a'*", "'a' 'b'", "()()", "(1)1", "())",
    "(1))", "1)", "()*", "1-", "1-1", "'a''b",
    # integers in another form
    "00", "01", "-0", "-00", "-01", "+1", "--1", "1_0", "1.0", "1e3", "0x1", "0b1", "(01)",
    "(-0)", "(1,00)",
    # spaces outside of strings
    " ", " 1", "1 ", "( )", "(1, 2)", "(1 ,2)", "( 1)", "(1 )", "- 1", "1 2", " 'a'", "'a' ", " *",
    # commas without an item
    "(,)", "(1,)", "(,1)", "(1,,2)", "('a',)", "((),)", "(,())",
    # an item without a comma
    "(1'a')", "(**)", "('a'*)", "(()())", "(1(2))",
    # other characters
    "None", "True", "False", "a", "\"a\"", "[1]", "[]", "{}", "!", "1L", "~", "\n", "1\n", "\n1",
    "'a\n'", "'\x00'", "'\x7f'", "'\u00e9'", "\u0661", "\u00b2", "(\u0661)", "\u00b2\u00b9",
    "'" + chr(37) + "'", chr(37),
)


def nested(depth, inside=()):
    """A tuple of this depth around a tuple of depth 1."""
    value = inside
    for _ in range(depth - 1):
        value = (value,)
    return value


def sort_of(value):
    """The kinds of a value and of all its parts."""
    if isinstance(value, tuple):
        return tuple, [sort_of(item) for item in value]
    return type(value)


class PrintableTest(unittest.TestCase):
    def test_each_character(self):
        for code in range(0x3000):
            expected = 32 <= code <= 126 and code != 37
            self.assertIs(is_printable(chr(code)), expected, code)
            self.assertIs(is_printable("a" + chr(code) + "a"), expected, code)

    def test_other_characters(self):
        for text in ("\n", "a\n", "\na", "\r", "\t", "\u20ac", "\ud800", "\U0001f600", chr(37) * 2):
            self.assertIs(is_printable(text), False)

    def test_longer_strings(self):
        self.assertIs(is_printable(""), True)
        self.assertIs(is_printable(" !\"#$&'()*+,-./09:;<=>?@AZ[\\]^_`az{|}~"), True)
        self.assertIs(is_printable("a" * 300000), True)
        self.assertIs(is_printable("a" * 300000 + "\x7f"), False)

    def test_values_of_other_kinds(self):
        for value in NO_STRINGS:
            with self.subTest(kind=value.__class__):
                self.assertIs(is_printable(value), False)


class IntegerTest(unittest.TestCase):
    def test_bounds(self):
        for least, greatest in ((0, 0), (1, 10), (-5, 5), (-3, -1), (0, 10 ** 40)):
            for value, expected in ((least - 1, False), (least, True), (greatest, True),
                                    (greatest + 1, False), (10 ** 5000, False)):
                with self.subTest((least, greatest)):
                    self.assertIs(is_integer(value, least, greatest), expected)

    def test_bounds_in_the_wrong_order(self):
        for value in range(-1, 5):
            self.assertIs(is_integer(value, 3, 1), False)

    def test_true_and_false(self):
        for value in (True, False):
            self.assertIs(is_integer(value, 0, 1), False)
            self.assertIs(is_integer(value, -10, 10), False)

    def test_values_of_other_kinds(self):
        for value in NO_INTEGERS:
            with self.subTest(kind=value.__class__):
                self.assertIs(is_integer(value, -10, 10), False)


class PlainTest(unittest.TestCase):
    def test_each_plain_value_has_its_text(self):
        for value, text in PLAIN:
            with self.subTest(text):
                self.assertEqual(encode(value), text)
                self.assertEqual(decode(text), value)

    def test_decode_gives_back_the_same_kinds(self):
        for value, _ in PLAIN:
            found = decode(encode(value))
            self.assertEqual(found, value)
            self.assertEqual(sort_of(found), sort_of(value))

    def test_each_printable_character_in_a_string(self):
        for code in range(32, 127):
            if code != 37:
                for value in (chr(code), chr(code) * 3, "a" + chr(code), chr(code) + "a"):
                    text = "'" + value.replace("'", "''") + "'"
                    self.assertEqual(encode(value), text)
                    self.assertEqual(decode(text), value)

    def test_tuples_of_all_small_forms(self):
        level = [None, 0, -12, "", "'", ",", ")", ()]
        pairs = [items for count in (1, 2) for items in itertools.product(level, repeat=count)]
        for value in list(itertools.product(level, repeat=3)) + list(itertools.product(pairs[:40], repeat=2)):
            found = decode(encode(value))
            self.assertEqual(found, value)
            self.assertEqual(sort_of(found), sort_of(value))


class LimitTest(unittest.TestCase):
    def test_digits(self):
        for digits in ("9" * MOST_DIGITS, "1" + "0" * (MOST_DIGITS - 1)):
            for text in (digits, "-" + digits, "(" + digits + ",-" + digits + ")"):
                self.assertEqual(encode(decode(text)), text)
            self.assertEqual(decode(digits), int(digits))
            self.assertEqual(decode("-" + digits), -int(digits))

    def test_too_many_digits(self):
        for digits in ("9" * (MOST_DIGITS + 1), "1" + "0" * MOST_DIGITS, "1" * 150000):
            for text in (digits, "-" + digits, "(" + digits + ")", "0" + digits):
                with self.assertRaises(BadText):
                    decode(text)
        for value in (10 ** MOST_DIGITS, -10 ** MOST_DIGITS, 10 ** 10000):
            for plain in (value, (value,), (1, (value, 2))):
                with self.assertRaises(BadText):
                    encode(plain)

    def test_depth(self):
        for inside in ((), (1,), ("a", None)):
            for depth in (1, 2, MOST_DEPTH - 1, MOST_DEPTH):
                value = nested(depth, inside)
                self.assertEqual(decode(encode(value)), value)
        self.assertEqual(encode(nested(MOST_DEPTH)), "(" * MOST_DEPTH + ")" * MOST_DEPTH)
        self.assertEqual(decode("(" * 10 + "7" + ")" * 10), nested(10, (7,)))
        wide = (nested(9), 1, nested(9), (nested(8),))
        self.assertEqual(decode(encode(wide)), wide)

    def test_nested_too_deeply(self):
        for inside in ((), (1,), ("a", None)):
            for depth in (MOST_DEPTH + 1, MOST_DEPTH + 2, 5000):
                with self.assertRaises(BadText):
                    encode(nested(depth, inside))
        with self.assertRaises(BadText):
            encode((1, nested(9), (2, nested(9))))
        for text in ("(" * 11 + ")" * 11, "(" * 11 + "7" + ")" * 11, "(" * 100000 + ")" * 100000,
                     "(" * 200000, "(1,(2),(" + "(" * 9 + ")" * 9 + "))"):
            with self.assertRaises(BadText):
                decode(text)

    def test_texts_of_the_greatest_length(self):
        for value in ("a" * (MOST_LENGTH - 2),
                      "'" * (MOST_LENGTH // 2 - 1),
                      ("a" * (MOST_LENGTH - 10), (), ""),
                      (10,) + (1,) * (MOST_LENGTH // 2 - 2),
                      ((10,) + (1,) * (MOST_LENGTH // 2 - 3),)):
            text = encode(value)
            self.assertEqual(len(text), MOST_LENGTH)
            self.assertEqual(decode(text), value)

    def test_values_whose_texts_are_too_long(self):
        for value in ("a" * (MOST_LENGTH - 1),
                      "'" * (MOST_LENGTH // 2),
                      ("a" * (MOST_LENGTH - 9), (), ""),
                      (1,) * (MOST_LENGTH // 2),
                      ((10,) + (1,) * (MOST_LENGTH // 2 - 4) + (100,),),
                      "a" * 1000000,
                      (0,) * 1000000):
            for plain in (value, (value,), (1, (value, 2))):
                with self.assertRaises(BadText):
                    encode(plain)

    def test_texts_that_are_too_long(self):
        for text in ("'" + "a" * (MOST_LENGTH - 1) + "'",
                     "'" * (MOST_LENGTH + 2),
                     "(" + "0," * (MOST_LENGTH // 2 - 1) + "0)",
                     "('" + "a" * (MOST_LENGTH - 3) + "')"):
            self.assertIn(len(text), (MOST_LENGTH + 1, MOST_LENGTH + 2))
            with self.assertRaises(BadText):
                decode(text)

    def test_a_tuple_with_the_same_items_again_and_again(self):
        value = ()
        for _ in range(9):
            value = (value,) * 1000
        with self.assertRaises(BadText):
            encode(value)


class WrongTest(unittest.TestCase):
    def test_values_that_are_not_plain(self):
        for value in NOT_PLAIN:
            for plain in (value, (value,), (1, value, 2), ((), ("a", (value,)))):
                with self.subTest(kind=value.__class__):
                    with self.assertRaises(BadText):
                        encode(plain)

    def test_texts_that_are_not_canonical(self):
        for text in NOT_CANONICAL:
            with self.subTest(text):
                with self.assertRaises(BadText):
                    decode(text)

    def test_values_that_are_no_texts(self):
        for value in NO_STRINGS:
            with self.subTest(kind=value.__class__):
                with self.assertRaises(BadText):
                    decode(value)

    def test_each_beginning_of_a_text(self):
        text = "('it''s',-30,*,((),'a'),1)"
        self.assertEqual(encode(decode(text)), text)
        for end in range(len(text)):
            with self.assertRaises(BadText):
                decode(text[:end])

    def test_every_short_text_is_canonical_or_bad(self):
        # A text that is read must be the one text of the value that was read.
        found = 0
        for length in range(6):
            for characters in itertools.product("01-*'(), ", repeat=length):
                text = "".join(characters)
                try:
                    value = decode(text)
                except BadText:
                    continue
                found += 1
                self.assertEqual(encode(value), text)
        self.assertGreater(found, 100)


class ExampleTest(unittest.TestCase):
    def test_the_examples_of_the_interface(self):
        self.assertEqual(encode(("put", "it's", -3, None)), "('put','it''s',-3,*)")
        self.assertEqual(decode("(1,(),'a,b')"), (1, (), "a,b"))
        for text in ("(1,)", "01"):
            with self.assertRaises(BadText):
                decode(text)


if __name__ == "__main__":
    unittest.main()

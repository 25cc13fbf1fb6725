"""Parts of letters and records that several tests share."""

from boundstone.limits import DIRECTORY, MOST_CLIENTS, MOST_NUMBER
from values import NO_INTEGERS, NO_STRINGS, NO_TUPLES

COUNT = 4

PAIRS = (("b", "x"), ("ba", ""), ("c", "it's"))
ROWS = ((-9, 1, ("done",)), (-2, MOST_NUMBER, ("page", (("a", "x"),), None)), (-1, 7, ("value", "v")))

NO_KEYS = ("A", "a1", "a b", " ", "aaaaaaaaa", "\u00e9", "a\n")
NOT_NONE = tuple(value for value in NO_STRINGS if value is not None)

# What the parts of letters and records are not, by their form: n for a number, z for a size, o for an
# operation, r for an answer, l and h for the bounds of the range from "b" to "d", b for a bound, s for a
# server, c for a client, t for a target, k for the key of a split, m for the middle of a join, p for
# pairs, w for rows. A hyphen is the kind.
WRONG = {
    "-": NO_STRINGS + ("", "Ask", "ask ", "asks", "get", "done", "tick", "opened"),
    "n": NO_INTEGERS + (0, -1, MOST_NUMBER + 1, 10 ** 40),
    "z": NO_INTEGERS + (-1, MOST_NUMBER + 1, 10 ** 40),
    "o": NO_TUPLES + ((), ("get",), ("get", ""), ("done",), ("page", "a", 51), ("put", "a", 1)),
    "r": NO_TUPLES + ((), ("get", "a"), ("done", "a"), ("value",), ("page", (), "")),
    "l": NO_STRINGS + NO_KEYS + ("d", "da", "z"),
    "h": NOT_NONE + NO_KEYS + ("", "a", "azzzzzzz", "b"),
    "b": NO_STRINGS + NO_KEYS,
    "s": NO_INTEGERS + (-1, COUNT, COUNT + 1, DIRECTORY),
    "c": NO_INTEGERS + (0, 1, -MOST_CLIENTS - 1, DIRECTORY),
    "t": NO_INTEGERS + (-1, MOST_NUMBER + 1, 10 ** 40, "open"),
    "k": NO_STRINGS + NO_KEYS + ("", "a", "azzzzzzz", "b", "d", "da", "z"),
    "m": NO_STRINGS + NO_KEYS + ("", "a", "b", "d", "e"),
    "p": NO_TUPLES + ((("a", "x"),), (("d", "x"),), (("c", "x"), ("b", "x")), ("b", "x")),
    "w": NO_TUPLES + (((-1, 1),), ((-1, 1, ("done",)), (-2, 1, ("done",))), (-1, 1, ("done",))),
}

# Each kind of letter with the form of each of its parts, as in WRONG.
FORMS = (
    (("ask", 3, ("get", "a")), "-no"),
    (("where", "a"), "-b"),
    (("answer", 3, ("done",)), "-nr"),
    (("elsewhere", 3), "-n"),
    (("there", "b", "d", 3, 2), "-lhns"),
    (("move", "b", "d", 3, 2), "-lhns"),
    (("split", "b", "d", 3, "c"), "-lhnk"),
    (("join", "b", "c", 3, "d", 4), "-lmnhn"),
    (("have", "b", "d", 3, 5, "c"), "-lhnzb"),
    (("content", "b", "d", 3, PAIRS, ROWS), "-lhnpw"),
    (("receipt", "b", "d", 3), "-lhn"),
)

SENDERS = {
    "ask": ("client", "server"),
    "where": ("client", "directory"),
    "answer": ("server", "client"),
    "elsewhere": ("server", "client"),
    "there": ("directory", "client"),
    "move": ("directory", "server"),
    "split": ("directory", "server"),
    "join": ("directory", "server"),
    "have": ("server", "directory"),
    "content": ("server", "server"),
    "receipt": ("server", "server"),
}


def changed(value, at, part):
    return value[:at] + (part,) + value[at + 1:]

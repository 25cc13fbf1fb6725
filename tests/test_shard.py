import random
import unittest

from boundstone.errors import BadOperation, BadShard
from boundstone.keys import contains
from boundstone.limits import MOST_NUMBER, MOST_VALUE
from boundstone.operations import apply
from boundstone.shard import Shard, made
from values import NO_INTEGERS, NO_STRINGS, NO_TUPLES

DONE = ("done",)
NONE = ("none",)

ITEMS = (("b", "x"), ("c", ""), ("cc", "it's"), ("f", "y"), ("lz", "z"))
ROWS = ((-7, 2, ("page", (("a", "q"), ("b", "x")), "c")), (-2, 9, NONE), (-1, 4, ("value", "x")))

NO_KEYS = NO_STRINGS + ("", "A", "a1", "a b", "aaaaaaaaa", "\u00e9", "a\n")
NO_BOUNDS = NO_STRINGS + ("A", "a1", "a b", "aaaaaaaaa", "\u00e9", "a\n")
NO_EPOCHS = NO_INTEGERS + (0, -1, MOST_NUMBER + 1, 10 ** 40)

NO_ITEMS = NO_TUPLES + (
    list(ITEMS), ITEMS[::-1], (("c", "x"), ("b", "x")), (("b", "x"), ("b", "x")), (("b", "x"), ("b", "y")),
    (("a", "x"),), (("azzzzzzz", "x"),), (("m", "x"),), (("z", "x"),), (("b", "x"), ("m", "x")), (("", "x"),),
    (["b", "x"],), ("bx",), (("b",),), (("b", "x", "y"),), ("b", "x"), ((),), (None,), (("b", 1),), (("b", None),),
    (("b", "\n"),), (("b", "x" * (MOST_VALUE + 1)),), (("B", "x"),), ((1, "x"),), (("b", b"x"),),
)

NO_ROWS = NO_TUPLES + (
    list(ROWS), ROWS[::-1], (ROWS[0], ROWS[0]), ((-1, 1, DONE), (-1, 2, DONE)), ([-1, 1, DONE],), ((-1, 1),),
    ((-1, 1, DONE, 1),), (-1, 1, DONE), ((0, 1, DONE),), ((1, 1, DONE),), ((-101, 1, DONE),), ((-1, 0, DONE),),
    ((-1, MOST_NUMBER + 1, DONE),), ((-1, True, DONE),), (("-1", 1, DONE),), ((-1, 1, ["done"]),),
    ((-1, 1, ("get", "a")),), ((-1, 1, None),), ((-1, 1, ("done", 1)),), ((True, 1, DONE),), ((),), (None,),
)

# Every kind of operation, with a place in the range from "b" to "m".
OPERATIONS = (
    ("get", "b"), ("get", "d"), ("put", "b", "new"), ("put", "d", "new"), ("drop", "b"), ("drop", "d"),
    ("swap", "b", "x", "new"), ("swap", "b", "y", "new"), ("swap", "d", "x", "new"),
    ("page", "b", 1), ("page", "b", 50), ("page", "c", 3), ("page", "lzzzzzzz", 2),
)

OUTSIDE = (
    ("get", "a"), ("get", "azzzzzzz"), ("get", "m"), ("get", "z"), ("put", "m", "x"), ("put", "a", "x"),
    ("drop", "m"), ("swap", "a", "x", "y"), ("page", "", 1), ("page", "a", 50), ("page", "m", 1), ("page", "z", 1),
)


def some(low="b", high="m", epoch=4, items=ITEMS, rows=ROWS):
    return made(low, high, epoch, items, rows)


def look(shard):
    """All that a shard is."""
    return (shard.low, shard.high, shard.epoch) + shard.content()


class ShardTest(unittest.TestCase):
    def check(self, shard, low, high, epoch, items, rows):
        self.assertIs(shard.__class__, Shard)
        self.assertEqual(look(shard), (low, high, epoch, items, rows))
        self.assertEqual(shard.size(), len(items))

    def check_bad(self, shard, function, *arguments):
        before = look(shard)
        with self.assertRaises(BadShard):
            function(*arguments)
        self.assertEqual(look(shard), before)


class NewTest(ShardTest):
    def test_new_shards(self):
        for low, high in (("", None), ("", "a"), ("b", "m"), ("a", "aa"), ("zzzzzzzz", None), ("b", None)):
            for epoch in (1, 2, MOST_NUMBER):
                self.check(Shard(low, high, epoch), low, high, epoch, (), ())

    def test_bad_ranges(self):
        for low, high in [("a", "a"), ("b", "a"), ("", ""), ("a", ""), ("ab", "aa"), ("z", "zzzzzzzzz"), (None, None)]:
            with self.assertRaises(BadShard):
                Shard(low, high, 1)
        for value in NO_BOUNDS:
            with self.assertRaises(BadShard):
                Shard(value, None, 1)
            if value is not None:
                with self.assertRaises(BadShard):
                    Shard("", value, 1)

    def test_bad_epochs(self):
        for epoch in NO_EPOCHS:
            with self.assertRaises(BadShard):
                Shard("b", "m", epoch)

    def test_has(self):
        shard = Shard("b", "m", 1)
        for place in ("b", "ba", "c", "lzzzzzzz"):
            self.assertIs(shard.has(place), True)
        for place in ("", "a", "azzzzzzz", "m", "ma", "z"):
            self.assertIs(shard.has(place), False)
        for place in ("", "a", "zzzzzzzz"):
            self.assertIs(Shard("", None, 1).has(place), True)
        self.assertIs(Shard("", "a", 1).has(""), True)
        self.assertIs(Shard("", "a", 1).has("a"), False)

    def test_shards_are_independent(self):
        one, other = Shard("b", "m", 1), Shard("b", "m", 1)
        one.serve(-1, 1, ("put", "c", "x"))
        self.check(other, "b", "m", 1, (), ())

    def test_the_middle(self):
        shard = Shard("", None, 1)
        for number, (key, expected) in enumerate((("f", ""), ("b", "f"), ("c", "c"), ("z", "f"), ("a", "c")), 1):
            shard.serve(-1, number, ("put", key, "x"))
            self.assertEqual(shard.middle(), expected)


class ServeTest(ShardTest):
    def test_new(self):
        for client, number in ((-1, 5), (-1, MOST_NUMBER), (-2, 10), (-3, 1), (-100, 7)):
            for op in OPERATIONS:
                shard = some()
                items = dict(ITEMS)
                answer = apply(items, op, "m")
                self.assertEqual(shard.status(client, number), "new")
                self.assertEqual(shard.serve(client, number, op), ("new", answer))
                rows = {row[0]: row for row in ROWS}
                rows[client] = (client, number, answer)
                self.check(shard, "b", "m", 4, tuple(sorted(items.items())), tuple(rows[c] for c in sorted(rows)))
                self.assertEqual(shard.status(client, number), "again")

    def test_again_whatever_the_operation(self):
        for op in OPERATIONS:
            shard = some()
            for client, number, answer in ROWS:
                self.assertEqual(shard.status(client, number), "again")
                self.assertEqual(shard.serve(client, number, op), ("again", answer))
            self.assertEqual(look(shard), look(some()))

    def test_stale(self):
        for op in OPERATIONS:
            shard = some()
            for client, number, _ in ROWS:
                for less in (1, number - 1):
                    self.assertEqual(shard.status(client, less), "stale")
                    self.assertEqual(shard.serve(client, less, op), ("stale",))
            self.assertEqual(look(shard), look(some()))

    def test_status_changes_nothing(self):
        shard = some()
        for client in (-1, -2, -3):
            for number in range(1, 12):
                shard.status(client, number)
        self.assertEqual(look(shard), look(some()))

    def test_places_outside(self):
        shard = some()
        for client, number in ((-1, 5), (-1, 4), (-1, 3), (-3, 1)):
            for op in OUTSIDE:
                self.check_bad(shard, shard.serve, client, number, op)
        everything = Shard("", None, 1)
        for op in OUTSIDE:
            self.assertEqual(everything.serve(-1, 1, op)[0], "new" if op == OUTSIDE[0] else "again")

    def test_places_at_the_bounds(self):
        shard = Shard("", "b", 1)
        self.assertEqual(shard.serve(-1, 1, ("page", "", 1)), ("new", ("page", (), "b")))
        self.assertEqual(shard.serve(-1, 2, ("put", "azzzzzzz", "x")), ("new", DONE))
        self.check_bad(shard, shard.serve, -1, 3, ("put", "b", "x"))
        self.check_bad(shard, shard.serve, -1, 3, ("page", "b", 1))
        other = Shard("b", None, 1)
        self.assertEqual(other.serve(-1, 1, ("put", "b", "x")), ("new", DONE))
        self.assertEqual(other.serve(-1, 2, ("page", "b", 1)), ("new", ("page", (("b", "x"),), None)))
        self.check_bad(other, other.serve, -1, 3, ("page", "", 1))
        self.check_bad(other, other.serve, -1, 3, ("get", "azzzzzzz"))

    def test_no_operations(self):
        shard = some()
        for op in NO_TUPLES + (("get",), ("page", "b", 0), ("put", "b", 1)):
            with self.assertRaises(BadOperation):
                shard.serve(-1, 9, op)
        self.assertEqual(look(shard), look(some()))

    def test_the_example(self):
        shard = Shard("b", "m", 4)
        self.assertEqual(shard.serve(-1, 1, ("put", "c", "x")), ("new", DONE))
        self.assertEqual(shard.serve(-1, 1, ("get", "c")), ("again", DONE))
        self.assertEqual(shard.serve(-1, 2, ("page", "b", 5)), ("new", ("page", (("c", "x"),), "m")))
        left, right = shard.split("f")
        self.assertEqual((left.high, right.low, right.epoch, left.size(), right.size()), ("f", "f", 5, 1, 0))
        self.assertEqual(right.status(-1, 2), "again")


class SplitTest(ShardTest):
    def check_split(self, low, high, at):
        items = tuple((key, value) for key, value in ITEMS if contains(low, high, key))
        shard = made(low, high, 4, items, ROWS)
        before = look(shard)
        parts = shard.split(at)
        self.assertIs(parts.__class__, tuple)
        left, right = parts
        self.check(left, low, at, 5, tuple(item for item in items if item[0] < at), ROWS)
        self.check(right, at, high, 5, tuple(item for item in items if item[0] >= at), ROWS)
        self.assertEqual(look(shard), before)

    def test_split(self):
        for at in ("ba", "baaaaaaa", "c", "ca", "cc", "cd", "f", "l", "lz", "lzz", "lzzzzzzz"):
            self.check_split("b", "m", at)
            self.check_split("b", None, at)
            self.check_split("", "m", at)
            self.check_split("", None, at)
        self.check_split("", None, "a")
        self.check_split("", None, "zzzzzzzz")

    def test_places_where_a_shard_cannot_be_split(self):
        shard = some()
        for at in NO_KEYS + ("b", "a", "azzzzzzz", "m", "ma", "z", "zzzzzzzz"):
            self.check_bad(shard, shard.split, at)
        everything = Shard("", None, 1)
        for at in NO_KEYS:
            self.check_bad(everything, everything.split, at)
        last = Shard("zzzzzzzz", None, 1)
        for at in ("zzzzzzzz", "a", ""):
            self.check_bad(last, last.split, at)

    def test_epochs(self):
        for epoch in (1, 9, MOST_NUMBER - 1):
            left, right = Shard("b", "m", epoch).split("f")
            self.assertEqual((left.epoch, right.epoch), (epoch + 1, epoch + 1))

    def test_the_parts_are_independent(self):
        shard = some()
        left, right = shard.split("cc")
        kept = look(right)
        left.serve(-1, 5, ("put", "b", "new"))
        left.serve(-3, 1, ("drop", "c"))
        self.assertEqual((look(shard), look(right)), (look(some()), kept))
        kept = look(left)
        right.serve(-2, 10, ("put", "cc", "new"))
        right.serve(-4, 1, ("put", "d", "new"))
        self.assertEqual((look(shard), look(left)), (look(some()), kept))
        kept = look(right)
        shard.serve(-1, 6, ("put", "b", "old"))
        shard.serve(-5, 1, ("put", "l", "old"))
        self.assertEqual((look(left)[4][-1], look(right)), ((-1, 5, DONE), kept))
        self.assertEqual(left.size() + right.size(), 5)


class JoinTest(ShardTest):
    LEFT = (("b", "x"), ("c", "y"))
    RIGHT = (("f", "z"), ("g", ""))

    def left(self, epoch=4, rows=()):
        return made("b", "f", epoch, self.LEFT, rows)

    def right(self, epoch=4, rows=(), high="m"):
        return made("f", high, epoch, self.RIGHT, rows)

    def test_join(self):
        for high in ("m", None):
            left, right = self.left(), self.right(high=high)
            joined = left.join(right)
            self.check(joined, "b", high, 5, self.LEFT + self.RIGHT, ())
            self.check(left, "b", "f", 4, self.LEFT, ())
            self.check(right, "f", high, 4, self.RIGHT, ())
        self.check(Shard("", "a", 1).join(Shard("a", None, 1)), "", None, 2, (), ())

    def test_epochs(self):
        for one, other, expected in ((1, 1, 2), (1, 7, 8), (7, 1, 8), (MOST_NUMBER - 1, 3, MOST_NUMBER)):
            self.assertEqual(self.left(one).join(self.right(other)).epoch, expected)

    def test_the_sessions_of_both(self):
        a, b = ("value", "a"), ("value", "b")
        left = self.left(rows=((-5, 1, a), (-4, 3, a), (-3, 2, a), (-2, 2, a)))
        right = self.right(rows=((-4, 2, b), (-3, 3, b), (-2, 2, b), (-1, 1, b)))
        joined = left.join(right)
        self.assertEqual(joined.content()[1], ((-5, 1, a), (-4, 3, a), (-3, 3, b), (-2, 2, a), (-1, 1, b)))
        self.assertEqual(joined.serve(-2, 2, ("get", "g")), ("again", a))

    def test_shards_that_cannot_be_joined(self):
        shards = [Shard(low, high, 3) for low, high in (
            ("", "b"), ("", "f"), ("", None), ("b", "f"), ("b", "m"), ("c", "f"), ("f", "m"), ("f", None),
            ("g", "m"), ("m", None), ("b", None), ("a", "b"))]
        for one in shards:
            for other in shards:
                if one.high == other.low:
                    self.assertEqual(look(one.join(other)), (one.low, other.high, 4, (), ()))
                else:
                    self.check_bad(one, one.join, other)
                    self.check_bad(other, one.join, other)

    def test_the_order_counts(self):
        left, right = self.left(), self.right()
        self.check_bad(left, right.join, left)
        self.check_bad(left, left.join, left)

    def test_the_joined_shard_is_independent(self):
        left, right = self.left(rows=((-1, 1, DONE),)), self.right(rows=((-2, 1, DONE),))
        joined = left.join(right)
        kept = look(left), look(right)
        for number, op in enumerate((("put", "b", "n"), ("drop", "c"), ("put", "f", "n"), ("put", "h", "n")), 2):
            joined.serve(-1, number, op)
            joined.serve(-2, number, op)
        self.assertEqual((look(left), look(right)), kept)
        kept = look(joined)
        left.serve(-1, 2, ("put", "b", "l"))
        left.serve(-3, 2, ("put", "d", "l"))
        right.serve(-2, 2, ("drop", "f"))
        right.serve(-3, 2, ("put", "l", "r"))
        self.assertEqual(look(joined), kept)

    def test_split_and_joined_again(self):
        for at in ("ba", "c", "cb", "cc", "f", "lz", "lzzzzzzz"):
            left, right = some().split(at)
            self.check(left.join(right), "b", "m", 6, ITEMS, ROWS)


class ContentTest(ShardTest):
    def test_content_is_in_ascending_order(self):
        shard = Shard("b", "m", 4)
        requests = ((-1, 1, "f"), (-7, 2, "b"), (-2, 1, "lz"), (-10, 1, "c"), (-9, 1, "cc"), (-1, 2, "bb"))
        for client, number, key in requests:
            shard.serve(client, number, ("put", key, key))
        keys = ("b", "bb", "c", "cc", "f", "lz")
        rows = ((-10, 1, DONE), (-9, 1, DONE), (-7, 2, DONE), (-2, 1, DONE), (-1, 2, DONE))
        self.assertEqual(shard.content(), (tuple((key, key) for key in keys), rows))
        self.assertIs(shard.content().__class__, tuple)

    def test_content_of_nothing(self):
        self.assertEqual(Shard("b", "m", 4).content(), ((), ()))

    def test_made_again(self):
        for shard in (some(), Shard("b", "m", 4), some(rows=()), some(items=())):
            other = made("b", "m", 4, *shard.content())
            self.assertEqual(look(other), look(shard))
            for client in (-7, -2, -1, -3):
                for number in (1, 2, 4, 9, 10):
                    for op in OPERATIONS:
                        self.assertEqual(other.status(client, number), shard.status(client, number))
                        self.assertEqual(other.serve(client, number, op), shard.serve(client, number, op))
            self.assertEqual(look(other), look(shard))

    def test_made_at_the_bounds(self):
        for low, high, items in (
            ("b", "m", (("b", "x"), ("lzzzzzzz", "y"))), ("", None, (("a", "x"), ("zzzzzzzz", "y"))),
            ("", "b", (("azzzzzzz", "x" * MOST_VALUE),)),
        ):
            for epoch in (1, MOST_NUMBER):
                self.check(made(low, high, epoch, items, ROWS), low, high, epoch, items, ROWS)
        rows = tuple((client, MOST_NUMBER, NONE) for client in range(-100, 0))
        self.check(made("b", "m", 1, (), rows), "b", "m", 1, (), rows)

    def test_bad_ranges_and_epochs(self):
        for value in NO_BOUNDS + ("m", "n"):
            with self.assertRaises(BadShard):
                made(value, "m", 4, (), ())
        for value in NO_KEYS + ("b", "a"):
            if value is not None:
                with self.assertRaises(BadShard):
                    made("b", value, 4, (), ())
        for epoch in NO_EPOCHS:
            with self.assertRaises(BadShard):
                made("b", "m", epoch, ITEMS, ROWS)

    def test_contents_that_are_none(self):
        for items in NO_ITEMS:
            with self.assertRaises(BadShard):
                some(items=items)
        for rows in NO_ROWS:
            with self.assertRaises(BadShard):
                some(rows=rows)

    def test_the_content_stays_as_it_was(self):
        shard = some()
        content = shard.content()
        shard.serve(-1, 5, ("put", "d", "new"))
        self.assertEqual(content, (ITEMS, ROWS))

    def test_clone(self):
        shard = some()
        copy = shard.clone()
        self.assertEqual(look(copy), look(shard))
        copy.serve(-1, 5, ("put", "d", "new"))
        copy.serve(-3, 5, ("drop", "b"))
        self.assertEqual(look(shard), look(some()))
        kept = look(copy)
        shard.serve(-1, 6, ("put", "e", "new"))
        shard.serve(-4, 6, ("put", "b", "new"))
        self.assertEqual(look(copy), kept)


class ModelTest(ShardTest):
    """Lives of shards beside a dict of all items and a dict of the sessions that a shard knows of."""

    def request(self, chance, shards):
        shard, items, sessions = chance.choice(shards)
        key = chance.choice([key for key in ("b", "c", "d", "f", "g", "k", "l") if shard.has(key)] or [shard.low])
        op = chance.choice((("get", key), ("put", key, chance.choice("xyz")), ("drop", key),
                            ("swap", key, chance.choice("xyz"), "w"), ("page", key, chance.randint(1, 3))))
        client, number = chance.randint(-3, -1), chance.randint(1, 40)
        last, answer = sessions.get(client, (0, None))
        if number > last:
            answer = apply(items, op, shard.high)
            sessions[client] = (number, answer)
            expected = ("new", answer)
        else:
            expected = ("again", answer) if number == last else ("stale",)
        self.assertEqual(shard.serve(client, number, op), expected)

    def split(self, chance, shards):
        at = chance.randrange(len(shards))
        shard, items, sessions = shards[at]
        keys = [key for key in ("c", "cc", "d", "f", "g", "h", "k", "l") if key > shard.low and shard.has(key)]
        if keys:
            middle = chance.choice(keys)
            left, right = shard.split(middle)
            shards[at:at + 1] = [
                (left, {key: items[key] for key in items if key < middle}, dict(sessions)),
                (right, {key: items[key] for key in items if key >= middle}, dict(sessions))]

    def join(self, chance, shards):
        at = chance.randrange(len(shards))
        if at + 1 < len(shards):
            (left, items, sessions), (right, others, rows) = shards[at:at + 2]
            merged = {client: max(sessions.get(client, (0,)), rows.get(client, (0,)), key=lambda row: row[0])
                      for client in list(sessions) + list(rows)}
            shards[at:at + 2] = [(left.join(right), {**items, **others}, merged)]

    def copy(self, chance, shards):
        at = chance.randrange(len(shards))
        shard, items, sessions = shards[at]
        again = chance.choice((shard.clone(), made(shard.low, shard.high, shard.epoch, *shard.content())))
        shards[at] = (again, items, sessions)

    def test_lives(self):
        for seed in range(150):
            chance = random.Random(seed)
            shards = [(Shard("b", "m", 1), {}, {})]
            for _ in range(80):
                step = chance.choice((self.request, self.request, self.request, self.split, self.join, self.copy))
                step(chance, shards)
                for shard, items, sessions in shards:
                    rows = tuple((client,) + sessions[client] for client in sorted(sessions))
                    self.assertEqual(shard.content(), (tuple(sorted(items.items())), rows))


if __name__ == "__main__":
    unittest.main()

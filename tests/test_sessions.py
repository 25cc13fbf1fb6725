import itertools
import unittest

from boundstone.errors import BadShard
from boundstone.limits import MOST_NUMBER
from boundstone.sessions import Sessions

DONE = ("done",)
NONE = ("none",)


def table(*rows):
    """A table of sessions with these rows."""
    sessions = Sessions()
    for client, number, answer in rows:
        sessions.remember(client, number, answer)
    return sessions


class StatusTest(unittest.TestCase):
    def test_without_a_session(self):
        for sessions in (Sessions(), table((-2, 5, DONE))):
            for number in (1, 5, 6, MOST_NUMBER):
                self.assertEqual(sessions.status(-1, number), "new")

    def test_with_a_session(self):
        sessions = table((-1, 5, DONE), (-2, 1, NONE), (-3, MOST_NUMBER, DONE))
        for client, number, expected in (
            (-1, 1, "stale"), (-1, 4, "stale"), (-1, 5, "again"), (-1, 6, "new"), (-1, MOST_NUMBER, "new"),
            (-2, 1, "again"), (-2, 2, "new"), (-3, MOST_NUMBER, "again"), (-3, MOST_NUMBER - 1, "stale"),
        ):
            self.assertEqual(sessions.status(client, number), expected, (client, number))

    def test_status_changes_nothing(self):
        sessions = table((-1, 5, DONE))
        for number in (4, 5, 6):
            sessions.status(-1, number)
            sessions.status(-2, number)
        self.assertEqual(sessions.rows(), ((-1, 5, DONE),))


class RememberTest(unittest.TestCase):
    def test_remember_and_answer(self):
        sessions = Sessions()
        self.assertIsNone(sessions.remember(-1, 3, DONE))
        self.assertEqual(sessions.answer(-1), DONE)
        self.assertIsNone(sessions.remember(-1, 4, NONE))
        self.assertIsNone(sessions.remember(-2, 1, ("value", "x")))
        self.assertIsNone(sessions.remember(-1, MOST_NUMBER, ("page", (("a", "x"),), "b")))
        self.assertEqual(sessions.answer(-1), ("page", (("a", "x"),), "b"))
        self.assertEqual(sessions.answer(-2), ("value", "x"))

    def test_answer_without_a_session(self):
        for sessions in (Sessions(), table((-2, 5, DONE))):
            for _ in range(2):
                with self.assertRaises(BadShard):
                    sessions.answer(-1)

    def test_a_number_that_is_not_new(self):
        sessions = table((-1, 5, DONE), (-2, 1, NONE))
        for client, number in ((-1, 1), (-1, 4), (-1, 5), (-2, 1)):
            with self.assertRaises(BadShard):
                sessions.remember(client, number, ("value", "x"))
            self.assertEqual(sessions.rows(), ((-2, 1, NONE), (-1, 5, DONE)))

    def test_rows_are_in_ascending_order(self):
        self.assertEqual(Sessions().rows(), ())
        rows = ((-100, 7, DONE), (-10, 1, NONE), (-9, 4, DONE), (-2, 1, ("value", "")), (-1, 9, NONE))
        for order in itertools.permutations(rows):
            self.assertEqual(table(*order).rows(), rows)

    def test_the_rows_stay_as_they_were(self):
        sessions = table((-1, 1, DONE))
        rows = sessions.rows()
        sessions.remember(-2, 1, DONE)
        self.assertEqual(rows, ((-1, 1, DONE),))


class MergeTest(unittest.TestCase):
    def check(self, one, other, expected):
        first, second = table(*one), table(*other)
        merged = first.merged(second)
        self.assertEqual(merged.rows(), expected)
        # Neither the tables nor what was merged of them share anything.
        merged.remember(-1, 50, ("value", "m"))
        merged.remember(-50, 1, ("value", "m"))
        self.assertEqual((first.rows(), second.rows()), (one, other))
        kept = merged.rows()
        first.remember(-1, 60, ("value", "f"))
        first.remember(-60, 1, ("value", "f"))
        second.remember(-1, 70, ("value", "s"))
        second.remember(-70, 1, ("value", "s"))
        self.assertEqual(merged.rows(), kept)

    def test_merged(self):
        a, b = ("value", "a"), ("value", "b")
        self.check((), (), ())
        self.check(((-1, 1, a),), (), ((-1, 1, a),))
        self.check((), ((-1, 1, b),), ((-1, 1, b),))
        self.check(((-2, 1, a),), ((-1, 1, b),), ((-2, 1, a), (-1, 1, b)))
        self.check(((-1, 1, a),), ((-2, 1, b),), ((-2, 1, b), (-1, 1, a)))
        self.check(((-1, 3, a),), ((-1, 4, b),), ((-1, 4, b),))
        self.check(((-1, 4, a),), ((-1, 3, b),), ((-1, 4, a),))
        self.check(((-1, 4, a),), ((-1, 4, b),), ((-1, 4, a),))
        self.check(((-4, 1, a), (-3, 2, a), (-2, 9, a)), ((-3, 2, b), (-2, 10, b), (-1, 1, b)),
                   ((-4, 1, a), (-3, 2, a), (-2, 10, b), (-1, 1, b)))

    def test_merged_with_itself(self):
        sessions = table((-2, 1, DONE), (-1, 4, NONE))
        self.assertEqual(sessions.merged(sessions).rows(), sessions.rows())

    def test_all_small_tables(self):
        rows = [tuple((client, number, ("value", name)) for client, number in ((-2, two), (-1, one)) if number)
                for name in "ab" for one in range(3) for two in range(3)]
        for one, other in itertools.product(rows[:9], rows[9:]):
            expected = []
            for client in (-2, -1):
                found = [row for row in one + other if row[0] == client]
                expected.extend(sorted(found, key=lambda row: -row[1])[:1])
            self.check(one, other, tuple(expected))


class CloneTest(unittest.TestCase):
    def test_clones_are_independent(self):
        sessions = table((-2, 1, DONE), (-1, 4, NONE))
        copy = sessions.clone()
        self.assertEqual(copy.rows(), sessions.rows())
        copy.remember(-1, 5, ("value", "c"))
        copy.remember(-3, 1, ("value", "c"))
        self.assertEqual(sessions.rows(), ((-2, 1, DONE), (-1, 4, NONE)))
        sessions.remember(-2, 9, DONE)
        self.assertEqual(copy.rows(), ((-3, 1, ("value", "c")), (-2, 1, DONE), (-1, 5, ("value", "c"))))

    def test_tables_are_independent(self):
        one, other = Sessions(), Sessions()
        one.remember(-1, 1, DONE)
        self.assertEqual(other.rows(), ())
        self.assertEqual(other.clone().rows(), ())


if __name__ == "__main__":
    unittest.main()

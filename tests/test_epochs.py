import itertools
import random
import unittest

from boundstone.epochs import Epochs
from boundstone.keys import contains, is_range
from boundstone.limits import MOST_NUMBER

BOUNDS = ("", "a", "b", "c", "d", "zzzzzzzz")
HIGHS = BOUNDS[1:] + (None,)
RANGES = [(low, high) for low in BOUNDS for high in HIGHS if is_range(low, high)]
# Bounds at, just above and just below those, so that each part of a range between them has some.
PLACES = BOUNDS + ("aa", "azzzzzzz", "bz", "m", "zzzzzzz")


def raised(*steps):
    epochs = Epochs()
    for low, high, epoch in steps:
        epochs.raise_to(low, high, epoch)
    return epochs


class RowsTest(unittest.TestCase):
    def check(self, steps, rows):
        self.assertEqual(raised(*steps).rows(), rows, steps)

    def test_every_number_is_0_at_first(self):
        self.check((), [])
        for low, high in RANGES:
            self.assertEqual(Epochs().greatest(low, high), 0)

    def test_one_range(self):
        for low, high in RANGES:
            for epoch in (1, 7, MOST_NUMBER):
                self.check(((low, high, epoch),), [(low, high, epoch)])

    def test_apart(self):
        self.check((("a", "b", 2), ("c", "d", 2)), [("a", "b", 2), ("c", "d", 2)])
        self.check((("c", "d", 1), ("a", "b", 2)), [("a", "b", 2), ("c", "d", 1)])
        self.check((("b", None, 1), ("", "a", 1)), [("", "a", 1), ("b", None, 1)])

    def test_neighbours(self):
        self.check((("a", "b", 2), ("b", "c", 2)), [("a", "c", 2)])
        self.check((("b", "c", 2), ("a", "b", 2)), [("a", "c", 2)])
        self.check((("a", "b", 2), ("b", "c", 3)), [("a", "b", 2), ("b", "c", 3)])
        self.check((("a", "b", 2), ("c", "d", 2), ("b", "c", 2)), [("a", "d", 2)])
        self.check((("", "b", 2), ("c", None, 2), ("b", "c", 2)), [("", None, 2)])
        self.check((("a", "b", 2), ("b", None, 2)), [("a", None, 2)])

    def test_nested(self):
        self.check((("a", "d", 2), ("b", "c", 1)), [("a", "d", 2)])
        self.check((("a", "d", 2), ("b", "c", 2)), [("a", "d", 2)])
        self.check((("a", "d", 2), ("b", "c", 3)), [("a", "b", 2), ("b", "c", 3), ("c", "d", 2)])
        self.check((("b", "c", 1), ("a", "d", 2)), [("a", "d", 2)])
        self.check((("b", "c", 2), ("a", "d", 2)), [("a", "d", 2)])
        self.check((("b", "c", 3), ("a", "d", 2)), [("a", "b", 2), ("b", "c", 3), ("c", "d", 2)])
        self.check((("", None, 1), ("b", None, 2)), [("", "b", 1), ("b", None, 2)])
        self.check((("", None, 1), ("", "b", 2)), [("", "b", 2), ("b", None, 1)])

    def test_overlapping(self):
        self.check((("a", "c", 2), ("b", "d", 1)), [("a", "c", 2), ("c", "d", 1)])
        self.check((("a", "c", 2), ("b", "d", 2)), [("a", "d", 2)])
        self.check((("a", "c", 2), ("b", "d", 3)), [("a", "b", 2), ("b", "d", 3)])
        self.check((("b", "d", 2), ("a", "c", 1)), [("a", "b", 1), ("b", "d", 2)])
        self.check((("b", "d", 2), ("a", "c", 3)), [("a", "c", 3), ("c", "d", 2)])
        self.check((("a", "c", 2), ("b", None, 1)), [("a", "c", 2), ("c", None, 1)])

    def test_over_several_rows_and_gaps(self):
        steps = (("a", "b", 5), ("c", "d", 1), ("", None, 3))
        self.check(steps, [("", "a", 3), ("a", "b", 5), ("b", None, 3)])
        self.check(steps + (("aa", "zzzzzzzz", 5),), [("", "a", 3), ("a", "zzzzzzzz", 5), ("zzzzzzzz", None, 3)])

    def test_raising_to_no_epoch_names_no_keys(self):
        self.check((("a", "b", 0),), [])
        self.check((("b", "c", 1), ("a", "d", 0)), [("b", "c", 1)])

    def test_rows_is_a_new_list(self):
        epochs = raised(("a", "b", 2))
        rows = epochs.rows()
        self.assertIs(rows.__class__, list)
        rows.append(("c", "d", 1))
        rows[0] = ("b", None, 3)
        self.assertEqual(epochs.rows(), [("a", "b", 2)])
        rows.clear()
        epochs.raise_to("b", "c", 3)
        self.assertEqual(epochs.rows(), [("a", "b", 2), ("b", "c", 3)])

    def test_raise_to_returns_nothing(self):
        self.assertIsNone(Epochs().raise_to("a", "b", 2))
        self.assertIsNone(raised(("a", "b", 2)).raise_to("a", "b", 1))

    def test_tables_are_independent(self):
        one, other = Epochs(), Epochs()
        one.raise_to("a", "b", 1)
        self.assertEqual(other.rows(), [])


class GreatestTest(unittest.TestCase):
    def test_greatest(self):
        epochs = raised(("b", "d", 2), ("c", "d", 5), ("m", None, 3))
        for low, high, expected in (
            ("", "b", 0), ("", "ba", 2), ("a", "b", 0), ("a", "c", 2), ("a", "ca", 5), ("b", "c", 2), ("bb", "c", 2),
            ("c", "d", 5), ("cz", "d", 5), ("d", "m", 0), ("e", "f", 0), ("d", "ma", 3), ("cz", None, 5),
            ("d", None, 3), ("zzzzzzzz", None, 3), ("", None, 5), ("", "a", 0), ("azzzzzzz", "b", 0),
        ):
            self.assertEqual(epochs.greatest(low, high), expected, (low, high))

    def test_the_example(self):
        epochs = Epochs()
        epochs.raise_to("b", "m", 2)
        epochs.raise_to("f", None, 1)
        self.assertEqual(epochs.rows(), [("b", "m", 2), ("m", None, 1)])
        self.assertEqual(epochs.greatest("", "b"), 0)
        self.assertEqual(epochs.greatest("a", "c"), 2)

    def test_the_empty_string_counts_like_a_key(self):
        epochs = raised(("", "a", 4))
        self.assertEqual(epochs.greatest("", "a"), 4)
        self.assertEqual(epochs.greatest("a", None), 0)
        self.assertEqual(raised(("a", None, 4)).greatest("", "a"), 0)

    def test_greatest_changes_nothing(self):
        epochs = raised(("b", "d", 2))
        for low, high in RANGES:
            epochs.greatest(low, high)
        self.assertEqual(epochs.rows(), [("b", "d", 2)])


class ModelTest(unittest.TestCase):
    def check_rows(self, rows):
        for low, high, epoch in rows:
            self.assertTrue(is_range(low, high) and epoch > 0, rows)
        for (_, high, epoch), (low, _, other) in zip(rows, rows[1:]):
            self.assertIsNotNone(high, rows)
            self.assertTrue(high < low or (high == low and epoch != other), rows)

    def check(self, steps):
        epochs = raised(*steps)
        rows = epochs.rows()
        self.check_rows(rows)
        numbers = {}
        for place in PLACES:
            numbers[place] = max([epoch for low, high, epoch in steps if contains(low, high, place)], default=0)
            self.assertEqual([epoch for low, high, epoch in rows if contains(low, high, place)],
                             [numbers[place]] * (numbers[place] > 0), (steps, rows, place))
        for low, high in RANGES:
            expected = max(numbers[place] for place in PLACES if contains(low, high, place))
            self.assertEqual(epochs.greatest(low, high), expected, (steps, low, high))

    def test_all_pairs_of_steps(self):
        steps = [(low, high, epoch) for low, high in RANGES for epoch in (1, 2)]
        for pair in itertools.product(steps, steps):
            self.check(pair)

    def test_many_steps(self):
        chance = random.Random(401)
        for _ in range(1500):
            self.check([chance.choice(RANGES) + (chance.randint(1, 5),) for _ in range(chance.randint(3, 9))])

    def test_the_same_numbers_have_the_same_rows(self):
        chance = random.Random(402)
        for _ in range(500):
            steps = [chance.choice(RANGES) + (chance.randint(1, 5),) for _ in range(5)]
            rows = raised(*steps).rows()
            self.assertEqual(raised(*chance.sample(steps, 5)).rows(), rows)
            self.assertEqual(raised(*rows).rows(), rows)


if __name__ == "__main__":
    unittest.main()

import itertools
import random
import unittest

from boundstone.keys import contains, is_range
from boundstone.limits import MOST_NUMBER
from boundstone.routes import Routes, is_whole

BOUNDS = ("", "a", "b", "c", "d")
RANGES = [(low, high) for low in BOUNDS for high in BOUNDS + (None,) if is_range(low, high)]
# The ranges between neighbouring bounds.
PARTS = list(zip(BOUNDS, BOUNDS[1:] + (None,)))


def report(low, high, epoch=1, server=0, size=0, middle=""):
    return (low, high, epoch, server, size, middle)


def piece(low, high, found):
    return (low, high, found)


def routes_of(*reports):
    routes = Routes()
    for found in reports:
        routes.add(found)
    return routes


class RoutesTest(unittest.TestCase):
    def check(self, reports, *pieces):
        self.assertEqual(routes_of(*reports).pieces(), list(pieces))


class AddTest(RoutesTest):
    def test_no_reports(self):
        self.check(())
        self.assertIsNone(Routes().find(""))

    def test_one_report(self):
        for low, high in RANGES:
            one = report(low, high, MOST_NUMBER, 19, 12, "c")
            self.check((one,), (low, high, one))

    def test_add_returns_nothing(self):
        self.assertIsNone(Routes().add(report("a", "b")))
        self.assertIsNone(routes_of(report("a", "b", 2)).add(report("a", "b", 1)))

    def test_apart(self):
        one, other = report("a", "b", 5), report("c", "d", 1)
        for order in ((one, other), (other, one)):
            self.check(order, ("a", "b", one), ("c", "d", other))

    def test_neighbours_of_different_calls_stay_apart(self):
        for epoch in (1, 2, 3):
            one, other = report("a", "b", 2), report("b", "c", epoch)
            for order in ((one, other), (other, one)):
                self.check(order, ("a", "b", one), ("b", "c", other))

    def test_the_same_range(self):
        one = report("a", "c", 2, 0, 3, "b")
        for epoch, expected in ((1, 0), (2, 1), (3, 1)):
            other = report("a", "c", epoch, 1, 4, "bb")
            self.check((one, other), ("a", "c", (one, other)[expected]))
        again = report("a", "c", 2, 0, 9, "bbb")
        self.check((one, again), ("a", "c", again))
        self.check((one, again, one), ("a", "c", one))

    def test_a_newer_one_covers(self):
        for epoch in (2, 3):
            one = report("a", "d", epoch, 1)
            self.check((report("b", "c", 2), one), ("a", "d", one))
            self.check((report("a", "b", 2), report("c", "d", 2), one), ("a", "d", one))
            self.check((report("a", "b", 2), report("b", "d", 2), one), ("a", "d", one))

    def test_an_older_one_fills_what_is_left(self):
        newer, older = report("b", "c", 2), report("a", "d", 1)
        for order in ((newer, older), (older, newer)):
            self.check(order, ("a", "b", older), ("b", "c", newer), ("c", "d", older))
        self.check((report("a", "d", 2), report("b", "c", 1)), ("a", "d", report("a", "d", 2)))
        one, other = report("a", "b", 3), report("c", "d", 3)
        self.check((one, other, report("", None, 2)), ("", "a", report("", None, 2)), ("a", "b", one),
                   ("b", "c", report("", None, 2)), ("c", "d", other), ("d", None, report("", None, 2)))

    def test_a_newer_one_cuts(self):
        older = report("a", "c", 2)
        for epoch in (2, 3):
            newer = report("b", "d", epoch, 1)
            self.check((older, newer), ("a", "b", older), ("b", "d", newer))
            newer = report("", "b", epoch, 1)
            self.check((older, newer), ("", "b", newer), ("b", "c", older))
            newer = report("b", None, epoch, 1)
            self.check((older, newer), ("a", "b", older), ("b", None, newer))
        newer = report("b", "d", 1, 1)
        self.check((older, newer), ("a", "c", older), ("c", "d", newer))

    def test_a_newer_one_splits(self):
        older = report("a", "d", 2)
        for epoch in (2, 3):
            newer = report("b", "c", epoch, 1)
            self.check((older, newer), ("a", "b", older), ("b", "c", newer), ("c", "d", older))
        older = report("", None, 1)
        newer = report("b", "c", 1, 1)
        self.check((older, newer), ("", "b", older), ("b", "c", newer), ("c", None, older))

    def test_pieces_of_the_same_call_on_both_sides(self):
        older = report("", None, 1)
        routes = routes_of(older, report("b", "c", 2), report("b", "c", 3, 1))
        self.assertEqual(routes.pieces(), [("", "b", older), ("b", "c", report("b", "c", 3, 1)), ("c", None, older)])
        # Where there was a newer report, the older one does not come back.
        routes.drop("b")
        self.assertEqual(routes.pieces(), [("", "b", older), ("c", None, older)])
        routes.add(report("b", "c", 1, 1))
        self.assertEqual(routes.pieces(), [("", "b", older), ("b", "c", report("b", "c", 1, 1)), ("c", None, older)])
        routes.add(report("", None, 1))
        self.assertEqual(routes.pieces(), [("", None, older)])

    def test_pieces_is_a_new_list(self):
        routes = routes_of(report("a", "b"))
        pieces = routes.pieces()
        self.assertIs(pieces.__class__, list)
        pieces.append(("c", "d", report("c", "d")))
        pieces[0] = None
        self.assertEqual(routes.pieces(), [("a", "b", report("a", "b"))])
        pieces.clear()
        routes.add(report("c", "d"))
        self.assertEqual(routes.pieces(), [("a", "b", report("a", "b")), ("c", "d", report("c", "d"))])

    def test_routes_are_independent(self):
        one, other = Routes(), Routes()
        one.add(report("a", "b"))
        self.assertEqual(other.pieces(), [])


class FindTest(RoutesTest):
    def test_find(self):
        one, other, last = report("", "a", 1), report("b", "d", 2), report("c", None, 1)
        routes = routes_of(one, other, last)
        first, second, third = ("", "a", one), ("b", "d", other), ("d", None, last)
        for place, expected in (("", first), ("a", None), ("azzzzzzz", None), ("b", second), ("ba", second),
                                ("czzzzzzz", second), ("d", third), ("zzzzzzzz", third)):
            self.assertEqual(routes.find(place), expected, place)
        self.assertEqual(routes.pieces(), [first, second, third])

    def test_the_empty_string(self):
        self.assertIsNone(routes_of(report("a", None)).find(""))
        self.assertEqual(routes_of(report("", None)).find(""), ("", None, report("", None)))


class DropTest(RoutesTest):
    def test_drop(self):
        one, other, last = report("", "a", 1), report("b", "d", 2), report("c", None, 1)
        pieces = [("", "a", one), ("b", "d", other), ("d", None, last)]
        for place, gone in (("", 0), ("b", 1), ("ba", 1), ("czzzzzzz", 1), ("d", 2), ("zzzzzzzz", 2)):
            routes = routes_of(one, other, last)
            self.assertIsNone(routes.drop(place))
            self.assertEqual(routes.pieces(), pieces[:gone] + pieces[gone + 1:])
            self.assertIsNone(routes.find(place))
            self.assertIsNone(routes.drop(place))
            self.assertEqual(routes.pieces(), pieces[:gone] + pieces[gone + 1:])
        for place in ("a", "azzzzzzz"):
            routes = routes_of(one, other, last)
            self.assertIsNone(routes.drop(place))
            self.assertEqual(routes.pieces(), pieces)
        self.assertIsNone(Routes().drop(""))

    def test_reports_before_do_not_count_and_reports_after_do(self):
        routes = routes_of(report("", None, 1), report("a", "c", 7))
        routes.drop("b")
        self.assertIsNone(routes.find("a"))
        routes.add(report("b", "d", 1, 1))
        self.assertEqual(routes.pieces(), [("", "a", report("", None, 1)), ("b", "d", report("b", "d", 1, 1)),
                                           ("d", None, report("", None, 1))])

    def test_only_the_piece_is_dropped(self):
        older, newer = report("", None, 1), report("b", "c", 2)
        routes = routes_of(older, newer)
        routes.drop("a")
        self.assertEqual(routes.pieces(), [("b", "c", newer), ("c", None, older)])


class WholeTest(unittest.TestCase):
    def test_is_whole(self):
        for low, high in RANGES:
            for start, end in RANGES:
                self.assertIs(is_whole((start, end, report(low, high, 3, 1, 9, "c"))), (start, end) == (low, high))

    def test_whole_pieces(self):
        older, newer = report("", None, 1), report("b", "c", 2)
        self.assertEqual([is_whole(found) for found in routes_of(older, newer).pieces()], [False, True, False])
        self.assertEqual([is_whole(found) for found in routes_of(newer, report("c", "d")).pieces()], [True, True])


class Model:
    """The newest report of each part, with the number of its call."""

    def __init__(self):
        self.known = {}
        self.calls = 0

    def add(self, found):
        self.calls += 1
        for part in PARTS:
            if contains(found[0], found[1], part[0]):
                if part not in self.known or self.known[part][1][2] <= found[2]:
                    self.known[part] = (self.calls, found)

    def pieces(self):
        found = []
        for low, high in PARTS:
            if (low, high) in self.known:
                known = self.known[low, high]
                if found and found[-1][1] == low and found[-1][2] == known:
                    found[-1] = (found[-1][0], high, known)
                else:
                    found.append((low, high, known))
        return [(low, high, known[1]) for low, high, known in found]

    def drop(self, place):
        for low, high, _ in self.pieces():
            if contains(low, high, place):
                self.known = {part: known for part, known in self.known.items() if not contains(low, high, part[0])}


class ModelTest(unittest.TestCase):
    def check(self, routes, model):
        pieces = model.pieces()
        self.assertEqual(routes.pieces(), pieces)
        for place in BOUNDS + ("aa", "cz", "zzzzzzzz"):
            found = [one for one in pieces if contains(one[0], one[1], place)]
            self.assertEqual(routes.find(place), found[0] if found else None)

    def test_all_triples_of_reports(self):
        reports = [report(low, high, epoch) for low, high in RANGES[::2] for epoch in (1, 2)]
        for triple in itertools.product(reports, reports, reports):
            routes, model = routes_of(*triple), Model()
            for found in triple:
                model.add(found)
            self.assertEqual(routes.pieces(), model.pieces(), triple)

    def test_lives(self):
        for seed in range(300):
            chance = random.Random(seed)
            routes, model = Routes(), Model()
            for _ in range(25):
                if chance.random() < 0.8:
                    found = report(*chance.choice(RANGES), chance.randint(1, 3), chance.randint(0, 1))
                    routes.add(found)
                    model.add(found)
                else:
                    place = chance.choice(BOUNDS)
                    routes.drop(place)
                    model.drop(place)
                self.check(routes, model)


if __name__ == "__main__":
    unittest.main()

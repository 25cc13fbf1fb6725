import random
import unittest

from boundstone.limits import MOST_NUMBER
from boundstone.planner import FEW_ITEMS, MOST_ITEMS, plan
from boundstone.routes import Routes


def whole(low, high, epoch=1, server=0, size=6, middle=""):
    """A piece that is whole."""
    return (low, high, (low, high, epoch, server, size, middle))


def part(low, high, range_low, range_high, epoch=1, server=0, size=6, middle=""):
    """A piece that is not."""
    return (low, high, (range_low, range_high, epoch, server, size, middle))


def row(*servers, size=6):
    """Whole pieces side by side, at these servers."""
    bounds = ["", *"bcdefghijklmnop"[:len(servers) - 1], None]
    return [whole(low, high, 1, server, size) for low, high, server in zip(bounds, bounds[1:], servers)]


class PlanTest(unittest.TestCase):
    def check(self, pieces, count, *orders):
        given = list(pieces)
        found = plan(pieces, count)
        self.assertEqual(found, list(orders))
        self.assertIs(found.__class__, list)
        self.assertEqual(pieces, given)

    def test_the_limits(self):
        self.assertEqual((MOST_ITEMS, FEW_ITEMS), (8, 4))

    def test_no_pieces(self):
        for count in (1, 2, 20):
            self.check([], count)


class SplitTest(PlanTest):
    def test_eight_and_nine_items(self):
        for size in (0, 2, 7, 8):
            self.check([whole("b", "m", 3, 0, size, "f")], 1)
        for size in (9, 10, MOST_NUMBER):
            self.check([whole("b", "m", 3, 0, size, "f")], 1, (0, ("split", "b", "m", 3, "f")))

    def test_the_middle(self):
        for middle in ("ba", "f", "lzzzzzzz"):
            self.check([whole("b", "m", 3, 0, 9, middle)], 1, (0, ("split", "b", "m", 3, middle)))
        for middle in ("", "a", "azzzzzzz", "b", "m", "ma", "z"):
            self.check([whole("b", "m", 3, 0, 9, middle)], 1)
        for middle in ("a", "zzzzzzzz"):
            self.check([whole("", None, 3, 0, 9, middle)], 1, (0, ("split", "", None, 3, middle)))
        self.check([whole("", None, 3, 0, 9, "")], 1)

    def test_ascending_order_and_every_server(self):
        pieces = [whole("", "b", 5, 2, 9, "a"), whole("b", "d", 3, 0, 20, "c"), whole("m", None, 7, 1, 9, "z")]
        self.check(pieces, 3, (2, ("split", "", "b", 5, "a")), (0, ("split", "b", "d", 3, "c")),
                   (1, ("split", "m", None, 7, "z")))

    def test_pieces_that_are_not_whole(self):
        self.check([part("b", "f", "b", "m", 3, 0, 9, "d")], 1)
        self.check([part("d", "m", "b", "m", 3, 0, 9, "f")], 1)
        self.check([part("d", "m", "d", None, 3, 0, 9, "f")], 1)


class JoinTest(PlanTest):
    def test_four_and_five_items_together(self):
        for size, other in ((0, 0), (0, 4), (4, 0), (2, 2), (1, 3)):
            self.check([whole("b", "f", 3, 0, size), whole("f", "m", 8, 0, other)], 1,
                       (0, ("join", "b", "f", 3, "m", 8)))
        for size, other in ((0, 5), (5, 0), (2, 3), (1, 4), (4, 4)):
            self.check([whole("b", "f", 3, 0, size), whole("f", "m", 8, 0, other)], 1)

    def test_the_last_piece(self):
        self.check([whole("", "f", 3, 0, 1), whole("f", None, 8, 0, 1)], 1, (0, ("join", "", "f", 3, None, 8)))
        self.check([whole("", None, 3, 0, 1)], 1)

    def test_pieces_that_are_no_neighbours(self):
        self.check([whole("b", "e", 3, 0, 1), whole("f", "m", 8, 0, 1)], 1)
        self.check([whole("b", "f", 3, 0, 1), whole("f", "m", 8, 1, 1)], 2)

    def test_pieces_that_are_not_whole(self):
        self.check([part("b", "f", "a", "f", 3, 0, 1), whole("f", "m", 8, 0, 1)], 1)
        self.check([whole("b", "f", 3, 0, 1), part("f", "m", "f", "n", 8, 0, 1)], 1)
        # What is between two whole pieces keeps them apart.
        self.check([whole("b", "c", 3, 0, 1), part("c", "d", "c", "e", 3, 0, 1), whole("d", "f", 3, 0, 1)], 1)

    def test_each_piece_in_one_order(self):
        pieces = [whole("a", "b", 1, 0, 1), whole("b", "c", 2, 0, 1), whole("c", "d", 3, 0, 1),
                  whole("d", "e", 4, 0, 1), whole("e", "f", 5, 0, 1)]
        first, second = (0, ("join", "a", "b", 1, "c", 2)), (0, ("join", "c", "d", 3, "e", 4))
        self.check(pieces[:2], 1, first)
        self.check(pieces[:3], 1, first)
        self.check(pieces[:4], 1, first, second)
        self.check(pieces, 1, first, second)

    def test_a_piece_with_too_many_items_between(self):
        pieces = [whole("a", "b", 1, 0, 1), whole("b", "c", 2, 0, 4), whole("c", "d", 3, 0, 0)]
        self.check(pieces, 1, (0, ("join", "b", "c", 2, "d", 3)))

    def test_a_piece_that_is_split_is_not_joined(self):
        pieces = [whole("a", "b", 1, 0, 0), whole("b", "d", 2, 0, 9, "c"), whole("d", "e", 3, 0, 0)]
        self.check(pieces, 1, (0, ("split", "b", "d", 2, "c")))

    def test_splits_come_before_joins(self):
        pieces = [whole("a", "b", 1, 0, 0), whole("b", "c", 2, 0, 0), whole("c", "e", 3, 0, 9, "d")]
        self.check(pieces, 1, (0, ("split", "c", "e", 3, "d")), (0, ("join", "a", "b", 1, "c", 2)))

    def test_joins_at_several_servers(self):
        pieces = [whole("a", "b", 1, 1, 0), whole("b", "c", 2, 1, 0), whole("c", "d", 3, 0, 0),
                  whole("d", None, 4, 0, 0)]
        self.check(pieces, 2, (1, ("join", "a", "b", 1, "c", 2)), (0, ("join", "c", "d", 3, None, 4)))


class MoveTest(PlanTest):
    def test_loads_that_differ_by_one_and_by_two(self):
        self.check(row(0), 2)
        self.check(row(0, 0), 2, (0, ("move", "", "b", 1, 1)))
        self.check(row(0, 0, 1), 2)
        self.check(row(0, 0, 1, 1), 2)
        self.check(row(0, 0, 0, 1), 2, (0, ("move", "", "b", 1, 1)))
        self.check(row(1, 0, 0, 0), 2, (0, ("move", "b", "c", 1, 1)))
        self.check(row(1, 0, 1, 1), 2, (1, ("move", "", "b", 1, 0)))

    def test_one_server(self):
        self.check(row(0, 0, 0, 0), 1)

    def test_servers_without_pieces(self):
        self.check(row(2, 2), 3, (2, ("move", "", "b", 1, 0)))
        self.check(row(0, 0), 20, (0, ("move", "", "b", 1, 1)))
        self.check(row(1, 1), 20, (1, ("move", "", "b", 1, 0)))

    def test_equal_loads(self):
        self.check(row(2, 1, 1, 2), 4, (1, ("move", "b", "c", 1, 0)))
        self.check(row(3, 2, 1, 3, 2, 1), 4, (1, ("move", "c", "d", 1, 0)))
        self.check(row(0, 0, 0, 1, 2), 3, (0, ("move", "", "b", 1, 1)))
        self.check(row(3, 3, 0, 0), 4, (0, ("move", "c", "d", 1, 1)))
        self.check(row(0, 1, 2), 3)

    def test_at_most_one_move(self):
        self.check(row(0, 0, 0, 0, 0, 0, 0), 3, (0, ("move", "", "b", 1, 1)))

    def test_the_epoch_of_the_piece(self):
        self.check([whole("b", "f", 3, 0), whole("m", None, 9, 0)], 2, (0, ("move", "b", "f", 3, 1)))

    def test_pieces_that_are_not_whole_count_for_no_load(self):
        self.check([whole("", "b"), part("b", "c", "b", "d")], 2)
        self.check([part("b", "c", "b", "d"), whole("d", "e"), whole("f", None)], 2, (0, ("move", "d", "e", 1, 1)))
        pieces = row(0, 0) + [part("x", "y", "x", "z", 1, 1), part("z", None, "y", None, 1, 1)]
        pieces[1] = whole("b", "x")
        self.check(pieces, 2, (0, ("move", "", "b", 1, 1)))

    def test_pieces_with_an_order_do_not_move_but_count(self):
        split = whole("", "b", 1, 0, 9, "a")
        self.check([split, whole("b", "c", 2)], 2, (0, ("split", "", "b", 1, "a")), (0, ("move", "b", "c", 2, 1)))
        self.check([split, whole("b", "d", 2, 0, 9, "c")], 2, (0, ("split", "", "b", 1, "a")),
                   (0, ("split", "b", "d", 2, "c")))
        joined = [whole("", "b", 1, 0, 0), whole("b", "c", 2, 0, 0)]
        self.check(joined, 2, (0, ("join", "", "b", 1, "c", 2)))
        self.check(joined + [whole("c", None, 3)], 2, (0, ("join", "", "b", 1, "c", 2)), (0, ("move", "c", None, 3, 1)))

    def test_only_from_the_server_with_the_greatest_load(self):
        pieces = [whole("", "b", 1, 0, 9, "a"), whole("b", "d", 1, 0, 9, "c"), whole("d", "e", 1, 1),
                  whole("f", "g", 1, 1)]
        self.check(pieces, 3, (0, ("split", "", "b", 1, "a")), (0, ("split", "b", "d", 1, "c")))

    def test_all_three_parts(self):
        pieces = [whole("", "b", 1, 1), whole("b", "d", 2, 0, 9, "c"), whole("d", "e", 3, 0, 2),
                  whole("e", "f", 4, 0, 2), whole("f", "g", 5, 0, 3), whole("g", None, 6, 2)]
        self.check(pieces, 3, (0, ("split", "b", "d", 2, "c")), (0, ("join", "d", "e", 3, "f", 4)),
                   (0, ("move", "f", "g", 5, 1)))


class ModelTest(PlanTest):
    """The words of the document, step by step, with a table of the pieces that have an order."""

    def expected(self, pieces, count):
        orders, taken = [], {}
        wholes = [one for one in pieces if one[:2] == one[2][:2]]
        for low, high, (_, _, epoch, server, size, middle) in wholes:
            if size > 8 and middle != "" and middle > low and (high is None or middle < high):
                orders.append((server, ("split", low, high, epoch, middle)))
                taken[low] = True
        for low, high, (_, _, epoch, server, size, _) in wholes:
            for start, end, (_, _, other, neighbour, more, _) in wholes:
                if high is not None and start == high and low not in taken and start not in taken:
                    if server == neighbour and size + more <= 4:
                        orders.append((server, ("join", low, high, epoch, end, other)))
                        taken[low] = taken[start] = True
        loads = {server: 0 for server in range(count)}
        for one in wholes:
            loads[one[2][3]] += 1
        most = min(loads, key=lambda server: (-loads[server], server))
        least = min(loads, key=lambda server: (loads[server], server))
        if loads[most] - loads[least] >= 2:
            for low, high, (_, _, epoch, server, _, _) in wholes:
                if server == most and low not in taken:
                    return orders + [(server, ("move", low, high, epoch, least))]
        return orders

    def test_many_plans(self):
        kinds = {}
        for seed in range(3000):
            chance = random.Random(seed)
            count = chance.randint(1, 4)
            routes = Routes()
            for _ in range(chance.randint(0, 12)):
                low, high = sorted(chance.sample("abcdefghij~", 2))
                size = chance.choice((0, 1, 2, 3, 4, 8, 9))
                routes.add(("" if low == "a" else low, None if high == "~" else high, chance.randint(1, 3),
                            chance.randrange(count), size, chance.choice(("", "a", "cc", "e", "gg", "i"))))
            pieces = routes.pieces()
            orders = self.expected(pieces, count)
            self.check(pieces, count, *orders)
            for _, order in orders:
                kinds[order[0]] = kinds.get(order[0], 0) + 1
        for kind in ("split", "join", "move"):
            self.assertGreater(kinds[kind], 50, kinds)


if __name__ == "__main__":
    unittest.main()

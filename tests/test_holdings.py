import random
import unittest

from boundstone.errors import BadRecord
from boundstone.holdings import Holdings
from boundstone.keys import contains, overlap
from boundstone.limits import MOST_NUMBER
from boundstone.operations import apply, place
from boundstone.records import is_record
from parts import NO_KEYS, PAIRS, ROWS, WRONG, changed
from values import NO_STRINGS, NO_TUPLES

DONE = ("done",)

OPEN = ("opened", "b", "d", 3, PAIRS, ROWS)
NEIGHBOUR = ("opened", "d", "f", 5, (("e", "z"),), ((-9, 2, ("none",)), (-3, 1, DONE)))
SHUT = ("opened", "p", "t", 4, (("q", "v"),), ())

# Records after which each kind of record can be valid.
BASE = (OPEN, NEIGHBOUR, SHUT, ("closed", "p", "t", 4, 2), ("had", "x", "z", 9))

# A valid record of each kind after these, with the form of each of its parts, as in WRONG.
FORMS = (
    (("opened", "b", "d", 4, PAIRS, ROWS), "-lhnpw"),
    (("closed", "b", "d", 3, 2), "-lhnt"),
    (("gone", "b", "d", 3), "-lhn"),
    (("split", "b", "d", 3, "c"), "-lhnk"),
    (("join", "b", "c", 3, "d", 4), "-lmnhn"),
    (("did", "b", 3, -1, 8, ("get", "c")), "-bncno"),
    (("had", "b", "d", 3), "-lhn"),
)


# Lists of records after which the record of the same place above is valid.
BEFORE = (
    (("opened", "b", "d", 3, (), ()), ("closed", "b", "d", 3, 2)),
    (OPEN,),
    (OPEN, ("closed", "b", "d", 3, 2)),
    (OPEN,),
    (("opened", "b", "c", 3, (), ()), ("opened", "c", "d", 4, (), ())),
    (OPEN,),
    (),
)


def look(holdings):
    """All that holdings are."""
    return (holdings.shards(), holdings.epochs(), holdings.summary())


class HoldingsTest(unittest.TestCase):
    def check_fits(self, records, record):
        holdings = Holdings(list(records))
        before = look(holdings)
        self.assertIs(holdings.fits(record), True, record)
        self.assertEqual(look(holdings), before)
        self.assertIsNone(holdings.add(record))
        self.assertEqual(look(Holdings(list(records) + [record])), look(holdings))
        return holdings

    def check_refused(self, records, record):
        self.check_stays(Holdings(list(records)), record)
        with self.assertRaises(BadRecord):
            Holdings(list(records) + [record])

    def check_stays(self, holdings, record):
        before = look(holdings)
        self.assertIs(holdings.fits(record), False)
        with self.assertRaises(BadRecord):
            holdings.add(record)
        self.assertEqual(look(holdings), before)

    def check_shards(self, records, *shards):
        self.assertEqual(Holdings(list(records)).shards(), list(shards))


class FormTest(HoldingsTest):
    def test_each_record(self):
        for before, (record, _) in zip(BEFORE, FORMS):
            self.assertIs(is_record(record), True)
            self.check_fits(before, record)

    def test_one_part_odd(self):
        for before, (record, forms) in zip(BEFORE, FORMS):
            self.assertEqual(len(record), len(forms))
            holdings = Holdings(list(before))
            for at in range(1, len(forms)):
                for part in WRONG[forms[at]]:
                    with self.subTest(record[0], at=at, kind=part.__class__):
                        self.assertIs(is_record(changed(record, at, part)), False)
                        self.check_stays(holdings, changed(record, at, part))

    def test_the_kind_odd(self):
        for before, (record, _) in zip(BEFORE, FORMS):
            holdings = Holdings(list(before))
            for kind in NO_STRINGS + ("", "Opened", "opened ", "open", "close", "content", "move", "ask", "done"):
                self.check_stays(holdings, changed(record, 0, kind))

    def test_one_part_left_out_or_added(self):
        for before, (record, _) in zip(BEFORE, FORMS):
            holdings = Holdings(list(before))
            for at in range(len(record)):
                with self.subTest(record[0], left_out=at):
                    self.check_stays(holdings, record[:at] + record[at + 1:])
            for part in (1, "c", None, (), DONE, 2, "open"):
                with self.subTest(record[0], added=part):
                    self.check_stays(holdings, record + (part,))

    def test_values_that_are_no_tuples(self):
        holdings = Holdings(list(BASE))
        for value in NO_TUPLES + ((), ["gone", "p", "t", 4], "gone", ("gone",), (("gone", "p", "t", 4),), BASE):
            self.check_stays(holdings, value)

    def test_a_list_that_is_not_valid(self):
        with self.assertRaises(BadRecord):
            Holdings([("gone", "p", "t", 4)])
        with self.assertRaises(BadRecord):
            Holdings([None])
        for at in range(3):
            with self.assertRaises(BadRecord):
                Holdings(list(BASE[:at]) + [BASE[3]] + list(BASE[at:]))

    def test_an_empty_list(self):
        self.assertEqual(look(Holdings([])), ([], [], []))

    def test_the_list_may_be_changed(self):
        records = list(BASE)
        holdings = Holdings(records)
        before = look(holdings)
        records.clear()
        self.assertEqual(look(holdings), before)
        holdings.add(("had", "b", "c", 9))
        self.assertEqual(records, [])


class OpenedTest(HoldingsTest):
    def test_the_epoch_must_be_greater_than_that_of_every_key(self):
        records = (("had", "b", "d", 3), ("had", "d", "f", 5))
        for low, high, greatest in (("b", "d", 3), ("c", "d", 3), ("b", "da", 5), ("c", "e", 5), ("d", "f", 5),
                                    ("e", "z", 5), ("a", "ba", 3), ("cz", "d", 3), ("", None, 5), ("ez", None, 5)):
            for epoch in range(1, 8):
                record = ("opened", low, high, epoch, (), ())
                if epoch > greatest:
                    self.check_fits(records, record)
                else:
                    self.check_refused(records, record)
        for low, high in (("", "b"), ("a", "b"), ("f", "g"), ("f", None)):
            self.check_fits(records, ("opened", low, high, 1, (), ()))

    def test_no_open_shard_may_overlap(self):
        for low, high in (("b", "d"), ("c", "ca"), ("a", "ba"), ("cz", "e"), ("", None), ("b", None), ("", "c")):
            for epoch in (1, 3, 4, MOST_NUMBER):
                self.check_refused((OPEN,), ("opened", low, high, epoch, (), ()))
        for low, high in (("a", "b"), ("", "b"), ("d", "e"), ("d", None), ("e", "f")):
            self.check_fits((OPEN,), ("opened", low, high, 1, (), ()))

    def test_a_closed_shard_may_overlap(self):
        records = (OPEN, ("closed", "b", "d", 3, 2))
        for low, high in (("b", "d"), ("c", "ca"), ("a", "ba"), ("cz", "e"), ("", None)):
            self.check_refused(records, ("opened", low, high, 3, (), ()))
            holdings = self.check_fits(records, ("opened", low, high, 4, (), ()))
            self.assertEqual(holdings.content("b", "d", 3), (PAIRS, ROWS))

    def test_the_content_must_be_one_of_this_range(self):
        for items in ((("a", "x"),), (("d", "x"),), (("c", "x"), ("b", "x")), [("b", "x")], (("b", 1),)):
            self.check_refused((), ("opened", "b", "d", 1, items, ()))
        for rows in (((-1, 1, DONE), (-2, 1, DONE)), [(-1, 1, DONE)], ((-1, 0, DONE),), ((-1, 1, ("get", "a")),)):
            self.check_refused((), ("opened", "b", "d", 1, (), rows))

    def test_the_shard_is_held_open(self):
        for low, high in (("", None), ("b", "d"), ("", "a"), ("z", None)):
            for epoch in (1, 2, MOST_NUMBER):
                holdings = self.check_fits((), ("opened", low, high, epoch, (), ROWS))
                self.assertEqual(holdings.shards(), [(low, high, epoch, "open")])
                self.assertEqual(holdings.epochs(), [(low, high, epoch)])
                self.assertEqual(holdings.content(low, high, epoch), ((), ROWS))


class ClosedTest(HoldingsTest):
    def test_the_shard_must_be_held_open(self):
        for shard in (("b", "d", 2), ("b", "d", 4), ("b", "c", 3), ("b", None, 3), ("c", "d", 3), ("a", "d", 3),
                      ("b", "f", 3), ("p", "t", 4), ("x", "z", 9), ("", None, 3)):
            self.check_refused(BASE, ("closed",) + shard + (2,))

    def test_targets(self):
        for target in (0, 1, 20, 21, MOST_NUMBER):
            holdings = self.check_fits((OPEN,), ("closed", "b", "d", 3, target))
            self.assertEqual(holdings.shards(), [("b", "d", 3, target)])
            self.assertEqual(holdings.epochs(), [("b", "d", 3)])
            self.assertEqual(holdings.content("b", "d", 3), (PAIRS, ROWS))
        for target in (-1, MOST_NUMBER + 1, True, None, "open", "1"):
            self.check_refused((OPEN,), ("closed", "b", "d", 3, target))

    def test_a_closed_shard_is_not_found(self):
        holdings = Holdings([OPEN, ("closed", "b", "d", 3, 2)])
        for spot in ("b", "c", "czzzzzzz"):
            self.assertIsNone(holdings.find(spot))
        for record in (("closed", "b", "d", 3, 2), ("closed", "b", "d", 3, 1), ("split", "b", "d", 3, "c"),
                       ("did", "b", 3, -1, 8, ("get", "c"))):
            self.check_stays(holdings, record)

    def test_several_closed_shards_of_the_same_range(self):
        records = [OPEN, ("closed", "b", "d", 3, 2), ("opened", "b", "d", 5, (("c", "n"),), ()),
                   ("closed", "b", "d", 5, 1), ("opened", "b", "d", 6, (), ())]
        self.check_shards(records, ("b", "d", 3, 2), ("b", "d", 5, 1), ("b", "d", 6, "open"))
        holdings = Holdings(records)
        self.assertEqual(holdings.content("b", "d", 3), (PAIRS, ROWS))
        self.assertEqual(holdings.content("b", "d", 5), ((("c", "n"),), ()))
        self.assertEqual(holdings.content("b", "d", 6), ((), ()))
        holdings.add(("gone", "b", "d", 5))
        self.assertEqual(holdings.shards(), [("b", "d", 3, 2), ("b", "d", 6, "open")])
        self.assertEqual(look(Holdings(holdings.summary())), look(holdings))


class GoneTest(HoldingsTest):
    def test_the_shard_must_be_held_closed(self):
        for shard in (("b", "d", 3), ("d", "f", 5), ("p", "t", 3), ("p", "t", 5), ("p", "s", 4), ("q", "t", 4),
                      ("p", None, 4), ("x", "z", 9), ("", None, 4)):
            self.check_refused(BASE, ("gone",) + shard)

    def test_the_epoch_stays(self):
        holdings = self.check_fits(BASE, ("gone", "p", "t", 4))
        self.assertEqual(holdings.shards(), [("b", "d", 3, "open"), ("d", "f", 5, "open")])
        self.assertEqual(holdings.greatest("p", "t"), 4)
        self.assertEqual(holdings.epochs(), [("b", "d", 3), ("d", "f", 5), ("p", "t", 4), ("x", "z", 9)])
        for record in (("gone", "p", "t", 4), ("closed", "p", "t", 4, 2), ("opened", "p", "t", 4, (), ())):
            self.check_stays(holdings, record)
        with self.assertRaises(BadRecord):
            holdings.content("p", "t", 4)
        self.assertIsNone(holdings.add(("opened", "p", "t", 5, (), ())))


class SplitTest(HoldingsTest):
    def test_places(self):
        for at in ("ba", "c", "czzzzzzz"):
            holdings = self.check_fits(BASE, ("split", "b", "d", 3, at))
            self.assertEqual(holdings.shards()[:2], [("b", at, 4, "open"), (at, "d", 4, "open")])
            self.assertEqual(holdings.epochs()[0], ("b", "d", 4))
            self.assertEqual(holdings.content("b", at, 4), (tuple(pair for pair in PAIRS if pair[0] < at), ROWS))
            self.assertEqual(holdings.content(at, "d", 4), (tuple(pair for pair in PAIRS if pair[0] >= at), ROWS))
            with self.assertRaises(BadRecord):
                holdings.content("b", "d", 3)
        for at in ("", "a", "azzzzzzz", "b", "d", "da", "z") + NO_KEYS:
            self.check_refused(BASE, ("split", "b", "d", 3, at))

    def test_the_shard_must_be_held_open(self):
        for shard, at in ((("b", "d", 2), "c"), (("b", "d", 4), "c"), (("b", "e", 3), "c"), (("a", "d", 3), "c"),
                          (("b", None, 3), "c"), (("p", "t", 4), "q"), (("x", "z", 9), "y")):
            self.check_refused(BASE, ("split",) + shard + (at,))

    def test_everything(self):
        records = [("opened", "", None, 1, (("a", "x"), ("m", "y")), ()), ("split", "", None, 1, "m"),
                   ("split", "m", None, 2, "z"), ("split", "", "m", 2, "a")]
        holdings = Holdings(records)
        self.assertEqual(holdings.shards(), [("", "a", 3, "open"), ("a", "m", 3, "open"), ("m", "z", 3, "open"),
                                             ("z", None, 3, "open")])
        self.assertEqual(holdings.epochs(), [("", None, 3)])
        self.assertEqual(holdings.content("a", "m", 3), ((("a", "x"),), ()))
        self.assertEqual(holdings.content("m", "z", 3), ((("m", "y"),), ()))


class JoinTest(HoldingsTest):
    def test_join(self):
        holdings = self.check_fits(BASE, ("join", "b", "d", 3, "f", 5))
        self.assertEqual(holdings.shards(), [("b", "f", 6, "open"), ("p", "t", 4, 2)])
        self.assertEqual(holdings.epochs(), [("b", "f", 6), ("p", "t", 4), ("x", "z", 9)])
        rows = ((-9, 2, ("none",)), (-3, 1, DONE), ROWS[1], ROWS[2])
        self.assertEqual(holdings.content("b", "f", 6), (PAIRS + (("e", "z"),), tuple(sorted(rows))))
        for shard in (("b", "d", 3), ("d", "f", 5), ("b", "d", 6)):
            with self.assertRaises(BadRecord):
                holdings.content(*shard)

    def test_both_must_be_held_open(self):
        for parts in (("b", "d", 2, "f", 5), ("b", "d", 4, "f", 5), ("b", "d", 3, "f", 4), ("b", "d", 3, "f", 6),
                      ("b", "d", 5, "f", 3), ("b", "d", 3, "g", 5), ("b", "d", 3, None, 5), ("b", "c", 3, "f", 5),
                      ("a", "d", 3, "f", 5), ("d", "f", 5, "g", 1), ("d", "b", 5, "d", 3), ("b", "d", 3, "d", 3),
                      ("f", "p", 1, "t", 4)):
            self.check_refused(BASE, ("join",) + parts)
        for parts in (("b", "p", 3, "t", 4), ("b", "d", 3, "f", 5)):
            self.check_refused((OPEN, NEIGHBOUR, ("closed", "d", "f", 5, 1)), ("join",) + parts)
        self.check_refused((OPEN, NEIGHBOUR, ("closed", "b", "d", 3, 1)), ("join", "b", "d", 3, "f", 5))

    def test_a_closed_shard_between(self):
        records = (OPEN, ("closed", "b", "d", 3, 1), NEIGHBOUR, ("opened", "b", "d", 4, (), ()))
        holdings = self.check_fits(records, ("join", "b", "d", 4, "f", 5))
        self.assertEqual(holdings.shards(), [("b", "d", 3, 1), ("b", "f", 6, "open")])


class GreatestEpochTest(HoldingsTest):
    MOST = ("opened", "b", "d", MOST_NUMBER, PAIRS, ROWS)
    LAST = ("opened", "b", "d", MOST_NUMBER - 1, PAIRS, ROWS)

    def test_the_greatest_epoch_cannot_rise(self):
        self.check_refused((self.MOST,), ("closed", "b", "d", MOST_NUMBER, 2))
        self.check_refused((self.MOST,), ("split", "b", "d", MOST_NUMBER, "c"))
        self.check_refused((self.MOST, NEIGHBOUR), ("join", "b", "d", MOST_NUMBER, "f", 5))
        before = ("opened", "a", "b", 3, (), ())
        self.check_refused((self.MOST, before), ("join", "a", "b", 3, "d", MOST_NUMBER))
        self.check_fits((self.MOST,), ("did", "b", MOST_NUMBER, -1, 8, ("put", "c", "n")))

    def test_the_one_before_can(self):
        epoch = MOST_NUMBER - 1
        self.check_fits((self.LAST,), ("closed", "b", "d", epoch, 2))
        self.check_fits((self.LAST, ("closed", "b", "d", epoch, 2)), ("gone", "b", "d", epoch))
        holdings = self.check_fits((self.LAST,), ("split", "b", "d", epoch, "c"))
        self.assertEqual(holdings.epochs(), [("b", "d", MOST_NUMBER)])
        self.check_fits((self.LAST, NEIGHBOUR), ("join", "b", "d", epoch, "f", 5))
        self.check_fits((self.LAST, ("opened", "a", "b", epoch, (), ())), ("join", "a", "b", epoch, "d", epoch))

    def test_had_and_gone(self):
        self.check_fits((), ("had", "b", "d", MOST_NUMBER))
        self.check_refused((), ("had", "b", "d", MOST_NUMBER + 1))
        self.check_refused((("had", "b", "c", MOST_NUMBER),), ("opened", "b", "d", MOST_NUMBER, (), ()))


class DidTest(HoldingsTest):
    def test_the_shard_must_be_open_and_have_the_place(self):
        for low, epoch, key in (("b", 2, "c"), ("b", 4, "c"), ("c", 3, "c"), ("", 3, "c"), ("b", 3, "d"), ("b", 3, "a"),
                                ("b", 5, "e"), ("d", 3, "c"), ("p", 4, "q"), ("x", 9, "y"), ("b", 3, "z")):
            self.check_refused(BASE, ("did", low, epoch, -1, 8, ("get", key)))
        self.check_refused((OPEN,), ("did", "b", 3, -1, 8, ("page", "", 1)))
        self.check_refused((("opened", "", "b", 1, (), ()),), ("did", "", 1, -1, 8, ("page", "b", 1)))
        self.check_fits((("opened", "", "b", 1, (), ()),), ("did", "", 1, -1, 8, ("page", "", 1)))

    def test_the_number_must_be_greater(self):
        for client, number in ((-9, 1), (-2, 1), (-2, MOST_NUMBER), (-1, 1), (-1, 6), (-1, 7)):
            self.check_refused(BASE, ("did", "b", 3, client, number, ("get", "c")))
        for client, number in ((-9, 2), (-9, MOST_NUMBER), (-1, 8), (-3, 1), (-100, MOST_NUMBER)):
            self.check_fits(BASE, ("did", "b", 3, client, number, ("get", "c")))

    def test_each_operation(self):
        for op in (("get", "b"), ("put", "bz", "n"), ("drop", "c"), ("swap", "b", "x", "n"), ("swap", "b", "n", "x"),
                   ("page", "b", 2), ("page", "czzzzzzz", 50), ("drop", "bz")):
            holdings = self.check_fits(BASE, ("did", "b", 3, -3, 4, op))
            items = dict(PAIRS)
            answer = apply(items, op, "d")
            rows = (ROWS[0], (-3, 4, answer)) + ROWS[1:]
            self.assertEqual(holdings.content("b", "d", 3), (tuple(sorted(items.items())), rows))
            self.assertEqual(holdings.shards(), Holdings(list(BASE)).shards())
            self.assertEqual(holdings.epochs(), Holdings(list(BASE)).epochs())


class HadTest(HoldingsTest):
    def test_in_any_place(self):
        for low, high in (("b", "d"), ("", None), ("c", "e"), ("p", "t"), ("q", "r"), ("x", "z"), ("", "a")):
            for epoch in (1, 3, 4, 9, MOST_NUMBER):
                for records in (BASE, ()):
                    holdings = self.check_fits(records, ("had", low, high, epoch))
                    self.assertEqual(holdings.shards(), Holdings(list(records)).shards())
                    old = Holdings(list(records)).greatest(low, high)
                    self.assertEqual(holdings.greatest(low, high), max(old, epoch))

    def test_a_shard_under_a_greater_epoch(self):
        records = [OPEN, ("had", "", None, 20)]
        holdings = Holdings(records)
        for record in (("closed", "b", "d", 3, 2), ("split", "b", "d", 3, "c"), ("did", "b", 3, -1, 8, ("get", "b"))):
            self.assertIs(holdings.fits(record), True)
        holdings.add(("split", "b", "d", 3, "c"))
        self.assertEqual(holdings.shards(), [("b", "c", 4, "open"), ("c", "d", 4, "open")])
        self.assertEqual(holdings.epochs(), [("", None, 20)])
        self.assertEqual(look(Holdings(holdings.summary())), look(holdings))
        holdings.add(("join", "b", "c", 4, "d", 4))
        self.assertEqual(holdings.epochs(), [("", None, 20)])
        self.check_stays(holdings, ("opened", "x", "z", 20, (), ()))


class QueryTest(HoldingsTest):
    def test_find(self):
        holdings = Holdings(list(BASE) + [("opened", "", "a", 1, (), ()), ("opened", "z", None, 10, (), ())])
        for spot, expected in (
            ("", ("", "a", 1)), ("a", None), ("azzzzzzz", None), ("b", ("b", "d", 3)), ("czzzzzzz", ("b", "d", 3)),
            ("d", ("d", "f", 5)), ("f", None), ("q", None), ("y", None), ("z", ("z", None, 10)),
            ("zzzzzzzz", ("z", None, 10)),
        ):
            self.assertEqual(holdings.find(spot), expected, spot)
        self.assertIsNone(Holdings([]).find(""))

    def test_status_and_answer(self):
        holdings = Holdings(list(BASE))
        for client, number, expected in ((-1, 6, "stale"), (-1, 7, "again"), (-1, 8, "new"), (-3, 1, "new")):
            self.assertEqual(holdings.status("b", client, number), expected)
        self.assertEqual(holdings.status("d", -3, 1), "again")
        self.assertEqual(holdings.answer("b", -1), ("value", "v"))
        self.assertEqual(holdings.answer("d", -9), ("none",))
        self.assertEqual(holdings.answer("b", -9), DONE)
        self.assertIsNone(holdings.answer("b", -3))
        self.assertIsNone(holdings.answer("d", -1))
        holdings.add(("did", "b", 3, -3, 1, ("get", "b")))
        self.assertEqual(holdings.answer("b", -3), ("value", "x"))
        self.assertEqual(holdings.status("b", -3, 1), "again")

    def test_measure(self):
        keys = ("b", "c", "d", "e", "f")
        for size, middle in enumerate(("", "", "c", "c", "d", "d")):
            items = tuple((key, "x") for key in keys[:size])
            self.assertEqual(Holdings([("opened", "", None, 1, items, ())]).measure(""), (size, middle))
        holdings = Holdings([("opened", "b", "m", 1, (("f", "x"), ("g", "y")), ())])
        self.assertEqual(holdings.measure("b"), (2, "g"))
        holdings.add(("did", "b", 1, -1, 1, ("put", "c", "n")))
        self.assertEqual(holdings.measure("b"), (3, "f"))
        holdings.add(("did", "b", 1, -1, 2, ("drop", "g")))
        self.assertEqual(holdings.measure("b"), (2, "f"))

    def test_contents_that_are_not_held(self):
        holdings = Holdings(list(BASE))
        self.assertEqual(holdings.content("p", "t", 4), ((("q", "v"),), ()))
        self.assertEqual(holdings.content("b", "d", 3), (PAIRS, ROWS))
        for shard in (("b", "d", 2), ("b", "d", 4), ("b", "e", 3), ("b", None, 3), ("a", "d", 3), ("c", "d", 3),
                      ("p", "t", 3), ("p", "t", 5), ("p", "s", 4), ("q", "t", 4), ("x", "z", 9), ("", None, 1)):
            with self.assertRaises(BadRecord):
                holdings.content(*shard)

    def test_greatest(self):
        holdings = Holdings(list(BASE))
        for low, high, expected in (("", "b", 0), ("b", "c", 3), ("b", "e", 5), ("f", "p", 0), ("s", "t", 4),
                                    ("", None, 9), ("t", "x", 0), ("", "q", 5)):
            self.assertEqual(holdings.greatest(low, high), expected)

    def test_lists_may_be_changed_by_their_caller(self):
        holdings = Holdings(list(BASE))
        before = look(holdings)
        for function in (holdings.shards, holdings.epochs, holdings.summary):
            found = function()
            self.assertIs(found.__class__, list)
            found.append(None)
            found[0] = None
            found.clear()
        self.assertEqual(look(holdings), before)

    def test_the_order_of_the_shards(self):
        records = [("opened", "m", None, 8, (), ()), ("opened", "", "b", 2, (), ()), ("closed", "m", None, 8, 0),
                   ("opened", "m", "n", 9, (), ()), ("closed", "m", "n", 9, 3), ("opened", "m", "z", 10, (), ()),
                   ("opened", "b", "c", 1, (), ()), ("closed", "", "b", 2, 7)]
        self.check_shards(records, ("", "b", 2, 7), ("b", "c", 1, "open"), ("m", None, 8, 0), ("m", "n", 9, 3),
                          ("m", "z", 10, "open"))


class SummaryTest(HoldingsTest):
    def test_summary(self):
        records = list(BASE) + [("did", "b", 3, -3, 1, ("put", "bb", "n")), ("opened", "h", "k", 3, (), ()),
                                ("opened", "f", "g", 3, (), ()), ("closed", "h", "k", 3, 0),
                                ("split", "d", "f", 5, "e"), ("opened", "a", "b", 1, (), ()), ("had", "m", None, 2)]
        items = (("b", "x"), ("ba", ""), ("bb", "n"), ("c", "it's"))
        sessions = ((-9, 2, ("none",)), (-3, 1, DONE))
        self.assertEqual(Holdings(records).summary(), [
            ("opened", "a", "b", 1, (), ()),
            ("opened", "b", "d", 3, items, (ROWS[0], (-3, 1, DONE)) + ROWS[1:]),
            ("opened", "f", "g", 3, (), ()),
            ("opened", "h", "k", 3, (), ()), ("closed", "h", "k", 3, 0),
            ("opened", "p", "t", 4, (("q", "v"),), ()), ("closed", "p", "t", 4, 2),
            ("opened", "d", "e", 6, (), sessions),
            ("opened", "e", "f", 6, (("e", "z"),), sessions),
            ("had", "a", "b", 1), ("had", "b", "d", 3), ("had", "d", "f", 6), ("had", "f", "g", 3),
            ("had", "h", "k", 3), ("had", "m", "p", 2), ("had", "p", "t", 4), ("had", "t", "x", 2),
            ("had", "x", "z", 9), ("had", "z", None, 2),
        ])

    def test_a_shard_that_was_closed_before_its_range_was_opened_again(self):
        records = [OPEN, ("closed", "b", "d", 3, 2), ("opened", "", None, 4, (), ())]
        self.assertEqual(Holdings(records).summary(), records + [("had", "", None, 4)])

    def test_the_summary_of_the_summary(self):
        for records in ((), BASE, BASE[:3], BASE + (("gone", "p", "t", 4),)):
            holdings = Holdings(list(records))
            again = Holdings(holdings.summary())
            self.assertEqual(look(again), look(holdings))


class Model:
    """What records say, of places one by one, and without shards."""

    PLACES = ("", "a", "b", "c", "cc", "d", "e", "f")

    def __init__(self):
        self.held = {}
        self.epochs = {spot: 0 for spot in self.PLACES}

    def open(self):
        return [name for name in self.held if self.held[name][2] == "open"]

    def is_open(self, *name):
        return name in self.held and self.held[name][2] == "open"

    def spots(self, low, high):
        return [spot for spot in self.PLACES if contains(low, high, spot)]

    def raised(self, low, high, epoch):
        for spot in self.spots(low, high):
            self.epochs[spot] = max(self.epochs[spot], epoch)

    def fits(self, record):
        kind, *parts = record
        if kind == "opened":
            low, high, epoch = parts[:3]
            return (all(self.epochs[spot] < epoch for spot in self.spots(low, high))
                    and not any(overlap(low, high, name[0], name[1]) for name in self.open()))
        if kind in ("closed", "split"):
            return self.is_open(*parts[:3])
        if kind == "gone":
            return tuple(parts) in self.held and not self.is_open(*parts)
        if kind == "join":
            low, middle, epoch, high, other = parts
            return self.is_open(low, middle, epoch) and self.is_open(middle, high, other)
        if kind == "did":
            low, epoch, client, number, op = parts
            return any(name[0] == low and name[2] == epoch and contains(low, name[1], place(op))
                       and self.held[name][1].get(client, (0,))[0] < number for name in self.open())
        return True

    def hold(self, low, high, epoch, items, sessions):
        items = {key: value for key, value in items.items() if contains(low, high, key)}
        self.held[(low, high, epoch)] = [items, dict(sessions), "open"]
        self.raised(low, high, epoch)

    def add(self, record):
        kind, *parts = record
        if kind == "opened":
            low, high, epoch, items, rows = parts
            self.hold(low, high, epoch, dict(items), {row[0]: row[1:] for row in rows})
        elif kind == "closed":
            self.held[tuple(parts[:3])][2] = parts[3]
        elif kind == "gone":
            del self.held[tuple(parts)]
        elif kind == "split":
            low, high, epoch, at = parts
            items, sessions, _ = self.held.pop((low, high, epoch))
            self.hold(low, at, epoch + 1, items, sessions)
            self.hold(at, high, epoch + 1, items, sessions)
        elif kind == "join":
            low, middle, epoch, high, other = parts
            items, sessions, _ = self.held.pop((low, middle, epoch))
            more, rows, _ = self.held.pop((middle, high, other))
            for client, row in rows.items():
                if client not in sessions or row[0] > sessions[client][0]:
                    sessions[client] = row
            self.hold(low, high, max(epoch, other) + 1, {**items, **more}, sessions)
        elif kind == "did":
            low, epoch, client, number, op = parts
            name = next(name for name in self.open() if name[0] == low)
            items, sessions, _ = self.held[name]
            sessions[client] = (number, apply(items, op, name[1]))
        else:
            self.raised(*parts)


class ModelTest(HoldingsTest):
    BOUNDS = ("", "a", "b", "c", "d", "e")

    def some_range(self, chance):
        low, high = sorted(chance.sample(self.BOUNDS + ("~",), 2))
        return low, None if high == "~" else high

    def some_record(self, chance, model):
        """A record that is valid more often than not."""
        low, high = self.some_range(chance)
        held = sorted(model.held, key=lambda name: (name[0], name[2]))
        name = chance.choice(held) if held and chance.random() < 0.9 else (low, high, chance.randint(1, 5))
        kind = chance.choice("opened opened closed gone split split join join did did had".split())
        if kind == "opened":
            top = max(model.epochs[spot] for spot in model.spots(low, high))
            keys = [spot for spot in model.spots(low, high) if spot and chance.random() < 0.5]
            items = tuple((key, chance.choice("xyz")) for key in keys)
            return (kind, low, high, max(1, top + chance.randint(-1, 2)), items, ())
        if kind == "closed":
            return (kind,) + name + (chance.randint(0, 3),)
        if kind == "gone":
            return (kind,) + name
        if kind == "split":
            keys = [key for key in self.BOUNDS + ("cc",) if key > name[0] and contains(name[0], name[1], key)]
            return (kind,) + name + (chance.choice(keys or ["e"]),)
        if kind == "join":
            others = [other for other in held if other[0] == name[1]] or [("e", None, 1)]
            other = chance.choice(others)
            return (kind, name[0], name[1], name[2], other[1], other[2])
        if kind == "did":
            key = chance.choice(model.PLACES[1:])
            op = chance.choice((("get", key), ("put", key, chance.choice("xyz")), ("drop", key), ("page", key, 2)))
            return (kind, name[0], name[2], chance.randint(-3, -1), chance.randint(1, 20), op)
        return (kind, low, high, chance.randint(1, 4))

    def check(self, holdings, model):
        names = sorted(model.held, key=lambda name: (name[0], name[2]))
        self.assertEqual(holdings.shards(), [name + (model.held[name][2],) for name in names])
        for name in names:
            items, sessions, _ = model.held[name]
            rows = tuple((client,) + sessions[client] for client in sorted(sessions))
            self.assertEqual(holdings.content(*name), (tuple(sorted(items.items())), rows))
        for spot in model.PLACES:
            found = [epoch for low, high, epoch in holdings.epochs() if contains(low, high, spot)]
            self.assertEqual(found, [model.epochs[spot]] * (model.epochs[spot] > 0))
            self.assertEqual(holdings.find(spot), next((name for name in model.open()
                                                        if contains(name[0], name[1], spot)), None))

    def test_lives(self):
        counts = {}
        for seed in range(250):
            chance = random.Random(seed)
            holdings, model = Holdings([]), Model()
            for _ in range(60):
                record = self.some_record(chance, model)
                expected = is_record(record) and model.fits(record)
                counts[record[0], expected] = counts.get((record[0], expected), 0) + 1
                self.assertIs(holdings.fits(record), expected, record)
                if expected:
                    holdings.add(record)
                    model.add(record)
                    if chance.random() < 0.3:
                        summary = holdings.summary()
                        holdings = Holdings(summary)
                        self.assertEqual(holdings.summary(), summary)
                else:
                    with self.assertRaises(BadRecord):
                        holdings.add(record)
                self.check(holdings, model)
        # Each kind of record was valid often, and often it was not, so that the lives show something.
        for record, _ in FORMS:
            self.assertGreater(counts[record[0], True], 200, counts)
            if record[0] != "had":
                self.assertGreater(counts[record[0], False], 200, counts)


if __name__ == "__main__":
    unittest.main()

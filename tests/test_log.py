import unittest

from boundstone.errors import BadText, DiskCrashed
from boundstone.files import Disk
from boundstone.limits import MOST_LENGTH
from boundstone.log import Log, line_of, read_lines
from boundstone.texts import encode
from disks import disk_with, recorder_with, state

RECORDS = (
    None,
    0,
    -12,
    10 ** 29,
    "",
    "it's",
    "5 'x'",
    (),
    (None, 1, "a b", ("c", ())),
    ("put", "ab", -3, None, ("it's",), ()),
    ("opened", "", None, 1, (("a", "x"),), ((-1, 1, ("done",)),)),
)

NO_RECORDS = (True, False, 1.0, b"a", [], ["a"], {}, {"a": 1}, set(), object(), "\n", "\u00e9", chr(37),
              (True,), ([],), ("a", (1.5,)), 10 ** 30, "a" * MOST_LENGTH, ("a", "b" * MOST_LENGTH))

OLD = (("a", 1), ("b", 2))
OLD_TEXT = "7 ('a',1)\n7 ('b',2)\n"


def nested(depth):
    value = ()
    for _ in range(depth - 1):
        value = (value,)
    return value


def lines(records):
    return "".join(line_of(record) for record in records)


class LineTest(unittest.TestCase):
    def test_lines(self):
        self.assertEqual(line_of(None), "1 *\n")
        self.assertEqual(line_of(-12), "3 -12\n")
        self.assertEqual(line_of("it's"), "7 'it''s'\n")
        self.assertEqual(line_of(()), "2 ()\n")
        self.assertEqual(line_of(("did", "", 1, -1, 2, ("get", "a"))), "29 ('did','',1,-1,2,('get','a'))\n")

    def test_a_line_is_the_length_and_the_canonical_text(self):
        for record in RECORDS + ("x" * 7, "x" * 8, "x" * 97, "x" * 98, "x" * (MOST_LENGTH - 2), nested(10)):
            text = encode(record)
            self.assertEqual(line_of(record), str(len(text)) + " " + text + "\n")

    def test_records_without_a_canonical_text(self):
        for record in NO_RECORDS + (nested(11),):
            with self.subTest(repr(record)[:40]):
                with self.assertRaises(BadText):
                    line_of(record)


class ReadTest(unittest.TestCase):
    def check(self, text, records, count):
        found = read_lines(text)
        self.assertEqual(found, (records, count), text)
        self.assertIs(found.__class__, tuple)
        self.assertIs(found[0].__class__, list)

    def test_the_empty_text(self):
        self.check("", [], 0)

    def test_whole_lines(self):
        text = lines(RECORDS)
        self.check(text, list(RECORDS), len(text))
        for record in RECORDS + ("x" * (MOST_LENGTH - 2), nested(10)):
            line = line_of(record)
            self.check(line, [record], len(line))

    def test_a_text_that_is_cut_at_every_place(self):
        text = lines(RECORDS)
        ends = [len(lines(RECORDS[:many])) for many in range(len(RECORDS) + 1)]
        for cut in range(len(text) + 1):
            many = len([end for end in ends if end <= cut]) - 1
            self.check(text[:cut], list(RECORDS[:many]), ends[many])

    def test_lines_that_are_wrong(self):
        wrong = (
            # a length that is too small, too great, or of another form
            "1 12\n", "3 12\n", "0 \n", "0 *\n", "01 *\n", "001 *\n", "-1 *\n", "+1 *\n", "1.0 *\n", "'1' *\n",
            "* *\n", "(1) *\n", "() *\n", "(),1 *\n", "1_0 *\n", "\u0661 *\n", "\u00b2 **\n", "a *\n", "x\n",
            # no space, or another character in its place
            "1*\n", "1\n", "1", "1\t*\n", "1\n*\n", " 1 *\n", " *\n", " \n", "\n", " ", "1  *\n", "1   *\n",
            # no newline where the length says
            "1 *", "1 * \n", "1 *\r\n", "1 **\n", "1 *x", "2 *\n", "2 *\n\n", "3 *\n\n\n",
            # what stands behind the length is not canonical
            "1 a\n", "2 01\n", "2 -0\n", "4 (1,)\n", "3 ( )\n", "1  \n", "1 '\n", "2 *,\n", "2 (*\n", "3 1 1\n",
            "3 '\u00e9'\n", "3 '" + chr(37) + "'\n", "3 '\n'\n", "1 \n\n", "4 True\n", "3 1.0\n",
            "31 1" + "0" * 30 + "\n",
            # lengths that no text has
            str(MOST_LENGTH + 1) + " '" + "x" * (MOST_LENGTH - 1) + "'\n", "9" * 40 + " *\n", "9" * 5000 + " *\n",
            "9" * (MOST_LENGTH + 1) + " *\n", "22 " + "(" * 11 + ")" * 11 + "\n",
        )
        for text in wrong:
            with self.subTest(text[:40]):
                self.check(text, [], 0)
                self.check(OLD_TEXT + text, list(OLD), len(OLD_TEXT))
                self.check(OLD_TEXT + text + OLD_TEXT, list(OLD), len(OLD_TEXT))

    def test_a_newline_in_the_middle_of_a_length(self):
        self.check("1 *\n1 *\n\n1 *\n", [None, None], 8)

    def test_characters_behind_the_last_line(self):
        for rest in ("x", " ", "\n", "1", "1 ", "1 *", "\x00", "\u00e9", "7 ('a',1"):
            self.check(OLD_TEXT + rest, list(OLD), len(OLD_TEXT))

    def test_the_greatest_length(self):
        line = line_of("x" * (MOST_LENGTH - 2))
        self.assertEqual(line[:7], "200000 ")
        self.check(line * 2, ["x" * (MOST_LENGTH - 2)] * 2, 2 * len(line))


class LogTest(unittest.TestCase):
    def check_made(self, disk, records, asked, files):
        """Create a log, and check its records and the operations of the disk."""
        log = Log(disk, "log")
        self.assertEqual(log.records(), list(records))
        self.assertEqual(disk.asked, list(asked))
        self.assertEqual(state(disk), list(files))

    def check_operations(self, make, work, count):
        """Check that the work on a new disk makes so many operations, by arming the disk."""
        for left in range(count):
            disk = make()
            disk.arm(left)
            with self.assertRaises(DiskCrashed):
                work(disk)
        disk = make()
        disk.arm(count)
        work(disk)
        with self.assertRaises(DiskCrashed):
            disk.append("x", "")


class MadeTest(LogTest):
    def test_no_file(self):
        self.check_made(recorder_with(), [], [], [])

    def test_other_files_stay(self):
        disk = recorder_with(("log.old", "1 *\n", ""), ("new", "1 1\n", "x"))
        self.check_made(disk, [], [], [("log.old", "1 *\n", 0), ("new", "1 1\nx", 1)])

    def test_a_whole_file_is_left_alone(self):
        self.check_made(recorder_with(("log", "", "")), [], [], [("log", "", 0)])
        self.check_made(recorder_with(("log", OLD_TEXT, "")), OLD, [], [("log", OLD_TEXT, 0)])
        self.check_made(recorder_with(("log", OLD_TEXT[:4], OLD_TEXT[4:])), OLD, [],
                        [("log", OLD_TEXT, len(OLD_TEXT) - 4)])

    def test_a_part_of_a_line_is_taken_away(self):
        for rest in ("7", "7 ('c',3", "7 ('c',3)", "x", "\n"):
            asked = [("append", "log.new", "7 ('a',1)\n"), ("append", "log.new", "7 ('b',2)\n"),
                     ("sync", "log.new"), ("rename", "log.new", "log")]
            self.check_made(recorder_with(("log", OLD_TEXT + rest, "")), OLD, asked, [("log", OLD_TEXT, 0)])

    def test_nothing_but_a_part_of_a_line(self):
        asked = [("append", "log.new", ""), ("sync", "log.new"), ("rename", "log.new", "log")]
        self.check_made(recorder_with(("log", "7 ('a',1)", "")), [], asked, [("log", "", 0)])

    def test_a_new_file_is_removed_first(self):
        fresh = ("log.new", "1 *\n", "2")
        gone = ("remove", "log.new")
        self.check_made(recorder_with(fresh), [], [gone], [])
        self.check_made(recorder_with(fresh, ("log", OLD_TEXT, "")), OLD, [gone], [("log", OLD_TEXT, 0)])
        asked = [gone, ("append", "log.new", "7 ('a',1)\n"), ("sync", "log.new"), ("rename", "log.new", "log")]
        self.check_made(recorder_with(fresh, ("log", OLD_TEXT[:12], "")), OLD[:1], asked,
                        [("log", "7 ('a',1)\n", 0)])

    def test_the_operations_one_by_one(self):
        fresh = ("log.new", "1 *\n", "2")
        for rows, count in (
            ((), 0),
            ((("log", OLD_TEXT, ""),), 0),
            ((("log", OLD_TEXT + "7", ""),), 4),
            ((("log", "7", ""),), 3),
            ((fresh,), 1),
            ((fresh, ("log", OLD_TEXT, "")), 1),
            ((fresh, ("log", OLD_TEXT + "7", "")), 5),
        ):
            self.check_operations(lambda: disk_with(*rows), lambda disk: Log(disk, "log"), count)

    def test_a_crash_at_each_operation_leaves_the_records(self):
        for left in range(5):
            disk = disk_with(("log.new", "1 *\n", "2"), ("log", OLD_TEXT + "7", ""))
            disk.arm(left)
            with self.assertRaises(DiskCrashed):
                Log(disk, "log")
            disk.crash([left, left])
            self.assertEqual(Log(disk, "log").records(), list(OLD))

    def test_any_name(self):
        name = "a" * 16
        disk = disk_with((name, OLD_TEXT + "7", ""), (name + ".new", "x", ""))
        log = Log(disk, name)
        log.append(None)
        log.sync()
        self.assertEqual(state(disk), [(name, OLD_TEXT + "1 *\n", 0)])

    def test_two_logs_on_one_disk(self):
        disk = Disk()
        one, other = Log(disk, "a"), Log(disk, "b")
        one.append(1)
        other.append(2)
        self.assertEqual((one.records(), other.records()), ([1], [2]))
        self.assertEqual(state(disk), [("a", "1 1\n", 4), ("b", "1 2\n", 4)])
        one.sync()
        self.assertEqual(state(disk), [("a", "1 1\n", 0), ("b", "1 2\n", 4)])


class UseTest(LogTest):
    def test_append(self):
        disk = recorder_with()
        log = Log(disk, "log")
        self.assertIsNone(log.append(("a", 1)))
        self.assertEqual(state(disk), [("log", "7 ('a',1)\n", 10)])
        self.assertIsNone(log.append(("b", 2)))
        self.assertEqual(state(disk), [("log", OLD_TEXT, 20)])
        self.assertEqual(log.records(), list(OLD))
        self.assertEqual(disk.asked, [("append", "log", "7 ('a',1)\n"), ("append", "log", "7 ('b',2)\n")])

    def test_append_to_a_file_with_lines(self):
        disk = recorder_with(("log", OLD_TEXT, ""))
        log = Log(disk, "log")
        log.append(None)
        self.assertEqual(state(disk), [("log", OLD_TEXT + "1 *\n", 4)])
        self.assertEqual(log.records(), list(OLD) + [None])

    def test_append_records_of_every_kind(self):
        disk = Disk()
        log = Log(disk, "log")
        for record in RECORDS:
            log.append(record)
        self.assertEqual(log.records(), list(RECORDS))
        self.assertEqual(disk.read("log"), lines(RECORDS))
        self.assertEqual(Log(disk, "log").records(), list(RECORDS))

    def test_sync(self):
        disk = recorder_with()
        log = Log(disk, "log")
        self.assertIsNone(log.sync())
        self.assertEqual((disk.asked, disk.names()), ([], []))
        log.append(None)
        self.assertIsNone(log.sync())
        self.assertEqual(state(disk), [("log", "1 *\n", 0)])
        self.assertIsNone(log.sync())
        self.assertEqual(disk.asked, [("append", "log", "1 *\n"), ("sync", "log"), ("sync", "log")])
        self.assertEqual(log.records(), [None])

    def test_rewrite(self):
        disk = recorder_with(("log", OLD_TEXT, ""))
        log = Log(disk, "log")
        self.assertIsNone(log.rewrite([None, ("c", 3)]))
        self.assertEqual(disk.asked, [("append", "log.new", "1 *\n"), ("append", "log.new", "7 ('c',3)\n"),
                                      ("sync", "log.new"), ("rename", "log.new", "log")])
        self.assertEqual(state(disk), [("log", "1 *\n7 ('c',3)\n", 0)])
        self.assertEqual(log.records(), [None, ("c", 3)])
        log.append(5)
        self.assertEqual(state(disk), [("log", "1 *\n7 ('c',3)\n1 5\n", 4)])
        self.assertEqual(log.records(), [None, ("c", 3), 5])

    def test_rewrite_to_no_records(self):
        disk = recorder_with(("log", OLD_TEXT, ""))
        log = Log(disk, "log")
        self.assertIsNone(log.rewrite([]))
        self.assertEqual(disk.asked, [("append", "log.new", ""), ("sync", "log.new"), ("rename", "log.new", "log")])
        self.assertEqual((state(disk), log.records()), ([("log", "", 0)], []))

    def test_rewrite_before_there_is_a_file(self):
        disk = recorder_with()
        log = Log(disk, "log")
        log.rewrite([None])
        self.assertEqual((state(disk), log.records()), ([("log", "1 *\n", 0)], [None]))

    def test_rewrite_beside_a_new_file(self):
        disk = recorder_with(("log", OLD_TEXT, ""))
        log = Log(disk, "log")
        disk.append("log.new", "1 1\n")
        disk.asked.clear()
        log.rewrite([None])
        self.assertEqual(disk.asked, [("remove", "log.new"), ("append", "log.new", "1 *\n"),
                                      ("sync", "log.new"), ("rename", "log.new", "log")])
        self.assertEqual((state(disk), log.records()), ([("log", "1 *\n", 0)], [None]))

    def test_rewrite_takes_away_what_is_pending(self):
        disk = recorder_with()
        log = Log(disk, "log")
        log.append(("a", 1))
        log.rewrite([None])
        disk.crash([])
        self.assertEqual(state(disk), [("log", "1 *\n", 0)])

    def test_rewrite_with_its_own_records(self):
        log = Log(Disk(), "log")
        for record in OLD:
            log.append(record)
        log.rewrite(log.records())
        self.assertEqual(log.records(), list(OLD))

    def test_the_operations_one_by_one(self):
        def rewritten(records):
            return lambda disk: Log(disk, "log").rewrite(records)

        self.check_operations(disk_with, lambda disk: Log(disk, "log").append(1), 1)
        self.check_operations(disk_with, lambda disk: Log(disk, "log").sync(), 0)
        with_old = lambda: disk_with(("log", OLD_TEXT, ""))
        self.check_operations(with_old, lambda disk: Log(disk, "log").append(1), 1)
        self.check_operations(with_old, lambda disk: Log(disk, "log").sync(), 1)
        self.check_operations(with_old, rewritten([]), 3)
        self.check_operations(with_old, rewritten([1]), 3)
        self.check_operations(with_old, rewritten([1, 2, 3]), 5)

    def test_records_without_a_canonical_text_write_nothing(self):
        for record in NO_RECORDS:
            disk = recorder_with(("log", OLD_TEXT, ""))
            log = Log(disk, "log")
            disk.append("log.new", "x")
            disk.asked.clear()
            with self.assertRaises(BadText):
                log.append(record)
            for records in ([record], [None, record], [record, None], [1, record, 2]):
                with self.assertRaises(BadText):
                    log.rewrite(records)
            self.assertEqual(disk.asked, [])
            self.assertEqual(state(disk), [("log", OLD_TEXT, 0), ("log.new", "x", 1)])
            self.assertEqual(log.records(), list(OLD))
        disk = Disk()
        with self.assertRaises(BadText):
            Log(disk, "log").append([])
        self.assertEqual(disk.names(), [])

    def test_records_is_a_new_list(self):
        log = Log(disk_with(("log", OLD_TEXT, "")), "log")
        for _ in range(2):
            found = log.records()
            self.assertIs(found.__class__, list)
            found.append(None)
            found[0] = None
            self.assertEqual(log.records(), list(OLD))
            log.rewrite(list(OLD))
        given = list(OLD)
        log.rewrite(given)
        given.append(None)
        self.assertEqual(log.records(), list(OLD))
        log.append(5)
        self.assertEqual(given, list(OLD) + [None])


# The steps of a life: None is a sync, a list is a rewrite, and everything else is appended.
LIVES = (
    ("a", "b", None, ("c", 1), "d", None, "e"),
    (None, "a", None, ["x", "y", ("z", 2)], "b", "c", None, [], "d", None, "e"),
    ("a", ["x"], ["y", "z"], "b", [], [], "c"),
)


class LifeTest(unittest.TestCase):
    def live(self, disk, life):
        """Use a log until the disk crashes, and tell what is synced, later, and being rewritten."""
        synced, later, rewriting = [], [], None
        try:
            log = Log(disk, "log")
            for step in life:
                if step is None:
                    log.sync()
                    synced, later = synced + later, []
                elif isinstance(step, list):
                    rewriting = step
                    log.rewrite(step)
                    synced, later, rewriting = step, [], None
                else:
                    log.append(step)
                    later = later + [step]
        except DiskCrashed:
            return synced, later, rewriting
        return synced, later, None

    def recovered(self, disk, crashes):
        """Create the next log, with a crash after each of these numbers of operations."""
        for left, keep in crashes:
            disk.arm(left)
            try:
                Log(disk, "log")
            except DiskCrashed:
                disk.crash([keep, keep])
        disk.crash([])
        return Log(disk, "log").records()

    def check(self, life, left, keep, crashes):
        disk = Disk()
        disk.arm(left)
        synced, later, rewriting = self.live(disk, life)
        disk.crash([keep, keep])
        found = self.recovered(disk, crashes)
        kept = [many for many in range(len(later) + 1) if len(lines(later[:many])) <= keep]
        allowed = [synced + later[:kept[-1]]]
        if rewriting is not None:
            allowed.append(rewriting)
        self.assertIn(found, allowed, (life, left, keep, crashes))
        return found

    def test_every_crash(self):
        for life in LIVES:
            for left in range(26):
                for keep in range(24):
                    self.check(life, left, keep, ())

    def test_crashes_while_the_next_log_is_created(self):
        for life in LIVES:
            for left in range(26):
                for keep in range(24):
                    expected = self.check(life, left, keep, ())
                    for first in range(7):
                        for second in (0, 1, 3):
                            crashes = ((first, second), (second, first))
                            self.assertEqual(self.check(life, left, keep, crashes), expected)

    def test_the_log_that_was_created_can_be_used(self):
        for left in range(26):
            for keep in range(24):
                disk = Disk()
                disk.arm(left)
                self.live(disk, LIVES[1])
                disk.crash([keep, keep])
                log = Log(disk, "log")
                before = log.records()
                log.append(("n", 1))
                log.sync()
                disk.crash([])
                self.assertEqual(Log(disk, "log").records(), before + [("n", 1)])


if __name__ == "__main__":
    unittest.main()

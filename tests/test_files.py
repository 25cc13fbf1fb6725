import unittest

from boundstone import files
from boundstone.errors import DiskCrashed, DiskError
from boundstone.files import MOST_NAME, Disk
from disks import disk_with, state
from values import NO_STRINGS

NAMES = ("a", "z", ".", "..", "log", "log.new", "a.b.c", "n" * MOST_NAME, "." * MOST_NAME)
NO_NAMES = NO_STRINGS + ("", "n" * (MOST_NAME + 1), "A", "a1", "0", "a b", " a", "a ", "a\n", "a/b",
                         "a-b", "a_b", "\u00e9", "\u0430", "`", "{", "/", "-")

# The operations of point 204 on a disk with a file "a", and what each of them leaves there.
OPERATIONS = (
    ("append", ("a", "x")),
    ("append", ("b", "")),
    ("sync", ("a",)),
    ("rename", ("a", "b")),
    ("rename", ("a", "a")),
    ("remove", ("a",)),
)

WRONG_CALLS = (
    ("append", ("A", "x")),
    ("append", ("", "x")),
    ("append", (None, "x")),
    ("append", ("a", None)),
    ("append", ("b", b"x")),
    ("sync", ("b",)),
    ("sync", ("A",)),
    ("rename", ("b", "a")),
    ("rename", ("b", "b")),
    ("rename", ("a", "A")),
    ("rename", ("a", "")),
    ("rename", ("b", "A")),
    ("remove", ("b",)),
    ("read", ("b",)),
    ("pending", ("b",)),
)


def call(disk, step):
    name, arguments = step
    return getattr(disk, name)(*arguments)


class DiskTest(unittest.TestCase):
    def check(self, disk, *rows):
        self.assertEqual(state(disk), list(rows))

    def check_crashed(self, disk):
        for step in OPERATIONS + WRONG_CALLS + (("read", ("a",)), ("pending", ("a",))):
            with self.subTest(step):
                with self.assertRaises(DiskCrashed):
                    call(disk, step)


class FilesTest(DiskTest):
    def test_a_new_disk_has_no_files(self):
        self.assertEqual(Disk().names(), [])

    def test_disks_are_independent(self):
        one, other = Disk(), Disk()
        one.append("a", "x")
        self.check(other)

    def test_the_most_characters_of_a_name(self):
        self.assertEqual(files.MOST_NAME, 20)

    def test_names(self):
        disk = Disk()
        for name in NAMES:
            self.assertIsNone(disk.append(name, name))
            self.assertEqual(disk.read(name), name)
        self.assertEqual(disk.names(), sorted(NAMES))
        for name in NAMES[1:]:
            self.assertIsNone(disk.rename(NAMES[0], name))
            self.assertIsNone(disk.rename(name, NAMES[0]))

    def test_names_are_in_ascending_order(self):
        disk = Disk()
        for name in ("log.new", "b", "log", ".", "a", "ab", "a.b"):
            disk.append(name, "x")
        self.assertEqual(disk.names(), [".", "a", "a.b", "ab", "b", "log", "log.new"])

    def test_names_returns_a_new_list(self):
        disk = disk_with(("a", "x", "y"))
        names = disk.names()
        names.append("b")
        names[0] = "c"
        self.assertEqual(disk.names(), ["a"])
        self.check(disk, ("a", "xy", 1))
        self.assertIsNot(disk.names(), disk.names())

    def test_append(self):
        disk = Disk()
        self.assertIsNone(disk.append("a", "xy"))
        self.check(disk, ("a", "xy", 2))
        self.assertIsNone(disk.append("a", "z"))
        self.check(disk, ("a", "xyz", 3))
        self.assertIsNone(disk.append("a", ""))
        self.check(disk, ("a", "xyz", 3))
        self.assertIsNone(disk.append("b", ""))
        self.check(disk, ("a", "xyz", 3), ("b", "", 0))

    def test_append_any_characters(self):
        text = "line\n\x00\u00e9\u20ac'" + chr(37)
        disk = disk_with(("a", text, text))
        self.check(disk, ("a", text + text, len(text)))

    def test_append_behind_durable_characters(self):
        disk = Disk()
        disk.append("a", "xy")
        disk.sync("a")
        disk.append("a", "z")
        self.check(disk, ("a", "xyz", 1))

    def test_sync(self):
        disk = disk_with(("a", "x", "yz"), ("b", "", "uv"))
        self.assertIsNone(disk.sync("a"))
        self.check(disk, ("a", "xyz", 0), ("b", "uv", 2))
        self.assertIsNone(disk.sync("a"))
        self.check(disk, ("a", "xyz", 0), ("b", "uv", 2))
        disk.crash([])
        self.check(disk, ("a", "xyz", 0), ("b", "", 0))

    def test_remove(self):
        disk = disk_with(("a", "x", "yz"), ("b", "", "uv"))
        self.assertIsNone(disk.remove("a"))
        self.check(disk, ("b", "uv", 2))
        disk.append("a", "n")
        self.check(disk, ("a", "n", 1), ("b", "uv", 2))

    def test_remove_is_durable_at_once(self):
        disk = disk_with(("a", "x", "yz"), ("b", "", "uv"))
        disk.remove("a")
        disk.crash([5, 5])
        self.check(disk, ("b", "uv", 0))

    def test_rename(self):
        disk = disk_with(("a", "x", "yz"), ("c", "", "uv"))
        self.assertIsNone(disk.rename("a", "b"))
        self.check(disk, ("b", "xyz", 2), ("c", "uv", 2))
        disk.append("b", "w")
        self.check(disk, ("b", "xyzw", 3), ("c", "uv", 2))

    def test_rename_is_durable_at_once_and_its_characters_are_as_before(self):
        disk = disk_with(("a", "x", "yz"))
        disk.rename("a", "b")
        disk.crash([1])
        self.check(disk, ("b", "xy", 0))

    def test_rename_onto_a_file_that_is_there(self):
        disk = disk_with(("a", "x", "yz"), ("b", "uuu", "vvvv"))
        self.assertIsNone(disk.rename("a", "b"))
        self.check(disk, ("b", "xyz", 2))
        disk.crash([])
        self.check(disk, ("b", "x", 0))

    def test_rename_to_its_own_name(self):
        disk = disk_with(("a", "x", "yz"), ("b", "u", "v"))
        self.assertIsNone(disk.rename("a", "a"))
        self.check(disk, ("a", "xyz", 2), ("b", "uv", 1))
        disk.crash([])
        self.check(disk, ("a", "x", 0), ("b", "u", 0))


class CrashTest(DiskTest):
    def made(self):
        return disk_with(("c", "1", "cde"), ("a", "", "xyz"), ("b", "durable", ""), ("d", "2", "fg"))

    def check_kept(self, keeps, kept_a, kept_c, kept_d):
        disk = self.made()
        given = list(keeps)
        self.assertIsNone(disk.crash(keeps))
        self.assertEqual(keeps, given)
        self.check(disk, ("a", kept_a, 0), ("b", "durable", 0), ("c", kept_c, 0), ("d", kept_d, 0))

    def test_keeps(self):
        self.check_kept([1, 2, 1], "x", "1cd", "2f")
        self.check_kept([3, 3, 2], "xyz", "1cde", "2fg")
        self.check_kept([0, 0, 0], "", "1", "2")
        self.check_kept([0, 1, 2], "", "1c", "2fg")

    def test_more_than_there_are(self):
        self.check_kept([4, 100, 3], "xyz", "1cde", "2fg")

    def test_missing_integers(self):
        self.check_kept([], "", "1", "2")
        self.check_kept([2], "xy", "1", "2")
        self.check_kept([2, 2], "xy", "1cd", "2")

    def test_negative_integers(self):
        self.check_kept([-1, 1, -2], "", "1c", "2")
        self.check_kept([-3, -3, -100], "", "1", "2")

    def test_surplus_integers(self):
        self.check_kept([1, 1, 1, 1], "x", "1c", "2f")
        self.check_kept([0, 0, 0, 7, 7, -7], "", "1", "2")

    def test_only_files_with_pending_characters_count(self):
        disk = disk_with(("a", "x", ""), ("b", "y", "zz"), ("c", "", ""), ("d", "", "uv"))
        disk.crash([1, 2])
        self.check(disk, ("a", "x", 0), ("b", "yz", 0), ("c", "", 0), ("d", "uv", 0))

    def test_files_without_characters_exist_after_a_crash(self):
        disk = Disk()
        disk.append("a", "xyz")
        disk.append("b", "")
        disk.crash([])
        self.check(disk, ("a", "", 0), ("b", "", 0))

    def test_a_second_crash_loses_nothing_more(self):
        disk = self.made()
        disk.crash([1, 2, 1])
        before = state(disk)
        disk.crash([])
        self.assertEqual(state(disk), before)
        disk.append("a", "new")
        disk.crash([2])
        self.assertEqual(disk.read("a"), "xne")

    def test_the_disk_works_after_a_crash(self):
        disk = self.made()
        disk.crash([1, 2, 1])
        disk.append("c", "w")
        disk.sync("c")
        disk.rename("d", "e")
        disk.remove("b")
        self.check(disk, ("a", "x", 0), ("c", "1cdw", 0), ("e", "2f", 0))


class ArmTest(DiskTest):
    def test_each_operation_crashes_and_has_no_effect(self):
        for step in OPERATIONS:
            disk = disk_with(("a", "x", "yz"))
            self.assertIsNone(disk.arm(0))
            with self.subTest(step):
                with self.assertRaises(DiskCrashed):
                    call(disk, step)
                self.assertEqual(disk.names(), ["a"])
                self.check_crashed(disk)
                disk.crash([1])
                self.check(disk, ("a", "xy", 0))

    def test_a_count_lets_operations_pass(self):
        for count in range(6):
            disk = disk_with(("a", "x", ""))
            disk.arm(count)
            for number in range(count):
                disk.append("a", str(number))
            with self.assertRaises(DiskCrashed):
                disk.append("a", "no")
            disk.crash([100])
            self.check(disk, ("a", "x" + "01234"[:count], 0))

    def test_each_operation_counts(self):
        for step in OPERATIONS:
            disk = disk_with(("a", "x", "yz"))
            disk.arm(1)
            with self.subTest(step):
                self.assertIsNone(call(disk, step))
                with self.assertRaises(DiskCrashed):
                    disk.append("c", "x")

    def test_other_methods_do_not_count(self):
        disk = disk_with(("a", "x", "yz"))
        disk.arm(0)
        for _ in range(3):
            self.assertEqual(disk.names(), ["a"])
            self.assertEqual(disk.read("a"), "xyz")
            self.assertEqual(disk.pending("a"), 2)
        with self.assertRaises(DiskCrashed):
            disk.sync("a")

    def test_calls_with_invalid_arguments_do_not_count(self):
        for count in (0, 1):
            for step in WRONG_CALLS:
                disk = disk_with(("a", "x", "yz"))
                disk.arm(count)
                with self.subTest(step, count=count):
                    for _ in range(3):
                        with self.assertRaises(DiskError):
                            call(disk, step)
                    self.check(disk, ("a", "xyz", 2))
                    for _ in range(count):
                        disk.append("a", "w")
                    with self.assertRaises(DiskCrashed):
                        disk.append("a", "w")

    def test_a_later_arm_replaces_the_earlier_one(self):
        disk = disk_with(("a", "x", ""))
        disk.arm(0)
        disk.arm(2)
        disk.append("a", "y")
        disk.append("a", "z")
        with self.assertRaises(DiskCrashed):
            disk.append("a", "w")
        disk.crash([])
        disk.arm(5)
        disk.sync("a")
        disk.arm(0)
        with self.assertRaises(DiskCrashed):
            disk.sync("a")

    def test_an_armed_disk_that_has_not_crashed_is_disarmed_by_crash(self):
        disk = disk_with(("a", "x", "yz"))
        disk.arm(0)
        disk.crash([1])
        for _ in range(5):
            disk.append("a", "w")
        self.check(disk, ("a", "xywwwww", 5))

    def test_a_crashed_disk_is_disarmed_by_crash(self):
        disk = disk_with(("a", "x", "yz"))
        disk.arm(0)
        with self.assertRaises(DiskCrashed):
            disk.sync("a")
        disk.crash([])
        for _ in range(5):
            disk.sync("a")
        self.check(disk, ("a", "x", 0))

    def test_arm_on_a_disk_that_has_crashed(self):
        for count in (0, 3):
            disk = disk_with(("a", "x", "yz"))
            disk.arm(0)
            with self.assertRaises(DiskCrashed):
                disk.remove("a")
            self.assertIsNone(disk.arm(count))
            self.check_crashed(disk)
            self.assertEqual(disk.names(), ["a"])
            disk.crash([1])
            for _ in range(5):
                disk.append("a", "w")
            self.check(disk, ("a", "xywwwww", 5))

    def test_a_disk_can_be_armed_again_after_a_crash(self):
        disk = disk_with(("a", "x", ""))
        for _ in range(3):
            disk.arm(1)
            disk.append("a", "y")
            with self.assertRaises(DiskCrashed):
                disk.append("a", "z")
            disk.crash([1])
        self.check(disk, ("a", "xyyy", 0))

    def test_a_file_is_not_created_by_an_append_that_crashes(self):
        disk = Disk()
        disk.arm(0)
        with self.assertRaises(DiskCrashed):
            disk.append("a", "x")
        self.assertEqual(disk.names(), [])
        disk.crash([1])
        self.assertEqual(disk.names(), [])


class ErrorTest(DiskTest):
    def test_invalid_arguments(self):
        for step in WRONG_CALLS:
            disk = disk_with(("a", "x", "yz"))
            with self.subTest(step):
                with self.assertRaises(DiskError):
                    call(disk, step)
                self.check(disk, ("a", "xyz", 2))

    def test_values_that_are_no_names(self):
        disk = disk_with(("a", "x", "yz"))
        for name in NO_NAMES:
            for step in (("append", (name, "x")), ("rename", ("a", name)), ("rename", (name, "a")),
                         ("read", (name,)), ("sync", (name,)), ("remove", (name,)),
                         ("pending", (name,))):
                with self.subTest(step[0], kind=name.__class__):
                    with self.assertRaises(DiskError):
                        call(disk, step)
        self.check(disk, ("a", "xyz", 2))

    def test_values_that_are_no_texts(self):
        disk = disk_with(("a", "x", "yz"))
        for text in NO_STRINGS:
            for name in ("a", "b"):
                with self.subTest(name, kind=text.__class__):
                    with self.assertRaises(DiskError):
                        disk.append(name, text)
        self.check(disk, ("a", "xyz", 2))

    def test_a_crashed_disk_says_so_before_it_looks_at_the_arguments(self):
        disk = disk_with(("a", "x", "yz"))
        disk.arm(0)
        with self.assertRaises(DiskCrashed):
            disk.append("a", "w")
        self.check_crashed(disk)
        disk.crash([])
        self.check(disk, ("a", "x", 0))

    def test_invalid_arguments_come_before_the_crash_of_this_operation(self):
        for step in WRONG_CALLS:
            disk = disk_with(("a", "x", "yz"))
            disk.arm(0)
            with self.subTest(step):
                with self.assertRaises(DiskError):
                    call(disk, step)
                self.assertEqual(disk.read("a"), "xyz")


if __name__ == "__main__":
    unittest.main()

import unittest

from boundstone import errors
from boundstone.errors import BadSchedule, TableError

NAMES = ("BadText", "BadOperation", "BadLetter", "BadShard", "BadRecord", "BadServer",
         "DiskError", "DiskCrashed", "BadSchedule")


def made(name):
    if name == "BadSchedule":
        return BadSchedule(3, "number")
    return getattr(errors, name)("why")


class ErrorsTest(unittest.TestCase):
    def test_table_error(self):
        self.assertEqual(TableError.__bases__, (ValueError,))

    def test_each_is_a_direct_subclass_of_table_error(self):
        for name in NAMES:
            with self.subTest(name):
                self.assertEqual(getattr(errors, name).__bases__, (TableError,))

    def test_each_is_of_no_other_class_of_the_program(self):
        for name in NAMES:
            with self.subTest(name):
                error = made(name)
                self.assertIsInstance(error, ValueError)
                own = [other for other in NAMES if isinstance(error, getattr(errors, other))]
                self.assertEqual(own, [name])

    def test_the_module_defines_these_and_no_others(self):
        found = [name for name, item in vars(errors).items() if isinstance(item, type)]
        self.assertEqual(sorted(found), sorted(NAMES + ("TableError",)))

    def test_each_is_raised_and_caught_by_its_name(self):
        for name in NAMES:
            with self.subTest(name):
                with self.assertRaises(TableError) as caught:
                    raise made(name)
                self.assertEqual(caught.exception.__class__.__name__, name)

    def test_bad_schedule_has_its_line_and_its_reason(self):
        error = BadSchedule(12, "position")
        self.assertEqual((error.line, error.reason), (12, "position"))
        error = BadSchedule(line=0, reason="act")
        self.assertEqual((error.line, error.reason), (0, "act"))


if __name__ == "__main__":
    unittest.main()

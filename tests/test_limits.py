import unittest

from boundstone import limits

VALUES = {
    "MOST_KEY": 8,
    "MOST_VALUE": 40,
    "MOST_PAGE": 50,
    "MOST_SERVERS": 20,
    "MOST_CLIENTS": 100,
    "DIRECTORY": 1000,
    "MOST_NUMBER": 1000000000000,
    "MOST_DIGITS": 30,
    "MOST_DEPTH": 10,
    "MOST_LENGTH": 200000,
}


class LimitsTest(unittest.TestCase):
    def test_each_limit_has_its_value(self):
        for name, value in VALUES.items():
            with self.subTest(name):
                self.assertIs(type(getattr(limits, name)), int)
                self.assertEqual(getattr(limits, name), value)


if __name__ == "__main__":
    unittest.main()

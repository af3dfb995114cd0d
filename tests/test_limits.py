import unittest

from paritypool import limits

VALUES = {
    "PRIME": 65521, "MAX_PIECES": 8, "MAX_DISKS": 8, "MAX_TRANSACTIONS": 8, "MAX_PAYLOAD": 1000,
    "MIN_ROWS": 64, "MAX_ROWS": 4000, "LABEL_ROWS": 2, "JOURNAL_ROWS": 16, "FIRST_ROW": 18,
    "MAX_NAME": 12, "MAX_PATH": 60, "MAX_FILE": 4096, "PAGE": 16,
}


class Limits(unittest.TestCase):
    def test_each_name_has_its_value(self):
        for name, value in VALUES.items():
            with self.subTest(name):
                self.assertIs(type(getattr(limits, name)), int)
                self.assertEqual(getattr(limits, name), value)


if __name__ == "__main__":
    unittest.main()

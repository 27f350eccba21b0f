"""Point 8: the futures that a department accepts; orders alone have no gauge that is read as hours."""

import unittest

from everyfuture.departments import check_future
from tests.brute import HUGE, told


class Reader:
    """What `check_future` looks at in a department."""

    gauges = ("a", "h", "p")
    hour_gauges = ("h",)


class Futures(unittest.TestCase):
    def test_least_values(self):
        for future in ({"a": 0, "h": 1, "p": 0}, {"p": HUGE, "h": 5, "a": 3, "z": -1}):
            self.assertIsNone(told(check_future, Reader, future))
        self.assertEqual(told(check_future, Reader, {"a": -1, "h": 0, "p": -1}), ("OutOfRange", "a"))
        self.assertEqual(told(check_future, Reader, {"a": 0, "h": 0, "p": -1}), ("OutOfRange", "h"))
        self.assertEqual(told(check_future, Reader, {"a": 0, "h": 1, "p": -1}), ("OutOfRange", "p"))

    def test_missing_gauges_come_first(self):
        self.assertEqual(told(check_future, Reader, {}), ("MissingGauge", "a"))
        self.assertEqual(told(check_future, Reader, {"a": -1, "h": 0}), ("MissingGauge", "p"))


if __name__ == "__main__":
    unittest.main()

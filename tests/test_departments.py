"""Points 8 and 51: the futures and the kinds that a department accepts."""

import unittest

from everyfuture.departments import check_future, kind_for
from everyfuture.kinds import Kind, menu
from tests.brute import HUGE, told


class Reader:
    """What these functions look at in a department."""

    gauges = ("a", "h", "p")
    hour_gauges = ("h",)


class Futures(unittest.TestCase):
    def test_least_values(self):
        for future in ({"a": 0, "h": 1, "p": 0}, {"p": HUGE, "h": 5, "a": 3, "z": -1}):
            self.assertIsNone(told(check_future, Reader, future))
        self.assertEqual(told(check_future, Reader, {"a": -1, "h": 0, "p": -1}), ("OutOfRange", "a"))
        self.assertEqual(told(check_future, Reader, {"a": 0, "h": 0, "p": -1}), ("OutOfRange", "h"))
        self.assertEqual(told(check_future, Reader, {"a": 0, "h": 1, "p": -1}), ("OutOfRange", "p"))

    def test_missing_gauges_come_first(self):
        self.assertEqual(told(check_future, Reader, {}), ("MissingGauge", "a"))
        self.assertEqual(told(check_future, Reader, {"a": -1, "h": 0}), ("MissingGauge", "p"))


class Kinds(unittest.TestCase):
    def test_missing_gauges_come_before_values(self):
        self.assertEqual(told(kind_for, Reader, Kind([], [[]])), ("MissingGauge", "a"))
        self.assertEqual(told(kind_for, Reader, Kind(["a", "h"], [[(0, 1), (0, 2)]])), ("MissingGauge", "p"))

    def test_the_first_gauge_with_too_small_a_value_in_some_future(self):
        boxes = [[(0, 9), (1, 9), (0, 9)], [(0, 0), (0, 1), (3, 4)]]
        self.assertEqual(told(kind_for, Reader, Kind(["a", "h", "p"], boxes)), ("OutOfRange", "h"))
        self.assertIsNone(told(kind_for, Reader, Kind(["a", "h", "p"], boxes[:1])))

    def test_the_kind_of_the_department_is_the_projection(self):
        boxes = [[(0, 1), (2, 3), (1, 4), (0, 0)], [(5, 6), (7, 7), (1, 4), (HUGE, HUGE)]]
        kind = Kind(["p", "b", "h", "a"], boxes)
        self.assertEqual(kind_for(Reader, kind), kind.onto(["h", "a", "p"]))
        self.assertEqual(kind_for(Reader, kind).gauges, ("a", "h", "p"))
        self.assertEqual(kind_for(Reader, kind.onto(["a", "h", "p"]) * menu("z", [3])), kind.onto(["a", "p", "h"]))


if __name__ == "__main__":
    unittest.main()

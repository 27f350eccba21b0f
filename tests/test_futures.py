"""Points 6 and 8, and the interface of futures.py."""

import unittest

from everyfuture.futures import is_gauge, part_of, value_of
from tests.brute import HUGE, told


class Names(unittest.TestCase):
    def test_names_of_gauges(self):
        for name in ("a", "z", "a0", "z9", "abcdefgh", "a1234567", "q" * 8):
            self.assertIs(is_gauge(name), True, name)

    def test_other_strings(self):
        for name in ("", "A", "aB", "0", "9a", "abcdefghi", "a_", "_a", "a b", " a", "a ", "a\n", "\na", "a.b", "-a",
                     "`a", "a{", "a/", "a:", "{", "a-1", "1"):
            self.assertIs(is_gauge(name), False, repr(name))


class Values(unittest.TestCase):
    def test_integers_and_gauges(self):
        self.assertEqual(value_of(7, {}), 7)
        self.assertEqual(value_of(-HUGE, {"a": 1}), -HUGE)
        self.assertEqual(value_of("a", {"b": 2, "a": HUGE}), HUGE)
        self.assertEqual(value_of("a", {"a": -3}), -3)

    def test_a_missing_gauge(self):
        self.assertEqual(told(value_of, "a", {}), ("MissingGauge", "a"))
        self.assertEqual(told(value_of, "b", {"a": 1}), ("MissingGauge", "b"))


class Parts(unittest.TestCase):
    def test_keys_ascend_and_others_are_left_out(self):
        future = {"c": 3, "a": 1, "b": HUGE, "a1": -2}
        self.assertEqual(list(part_of(future, ["c", "a1", "a"]).items()), [("a", 1), ("a1", -2), ("c", 3)])
        self.assertEqual(part_of(future, ("b",)), {"b": HUGE})
        self.assertEqual(part_of(future, []), {})
        self.assertEqual(part_of({}, ()), {})

    def test_the_first_missing_gauge_in_ascending_order(self):
        self.assertEqual(told(part_of, {"b": 1}, ["d", "b", "c"]), ("MissingGauge", "c"))
        self.assertEqual(told(part_of, {}, ["d", "b", "c"]), ("MissingGauge", "b"))

    def test_nothing_is_tied(self):
        future, gauges = {"b": 1, "a": 2}, ["b", "a"]
        part = part_of(future, gauges)
        part["a"] = 9
        self.assertEqual((future, gauges), ({"b": 1, "a": 2}, ["b", "a"]))
        self.assertEqual(list(future), ["b", "a"])
        self.assertEqual(part_of(future, gauges), {"a": 2, "b": 1})


if __name__ == "__main__":
    unittest.main()

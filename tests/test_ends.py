"""Point 16: directions, corners and ends."""

import random
import unittest
from itertools import product

from everyfuture.ends import corner, ends, is_as_far, opposite
from everyfuture.kinds import Kind, menu
from tests.brute import BIG, HUGE, futures_of, points_of_box, random_boxes, told

NAMES = ["a", "b", "c", "d"]


def directions_of(gauges):
    return [dict(zip(gauges, signs)) for signs in product((1, -1), repeat=len(gauges))]


def far_by_words(first, second, signs):
    return all(signs[name] * first[name] >= signs[name] * second[name] for name in signs)


class Opposite(unittest.TestCase):
    def test_signs_and_order(self):
        self.assertEqual(list(opposite({"b": 1, "a": -1, "a1": 1}).items()), [("a", 1), ("a1", -1), ("b", -1)])
        self.assertEqual(opposite({}), {})

    def test_the_first_wrong_sign(self):
        self.assertEqual(told(opposite, {"c": 0, "b": 2, "a": 1}), ("InvalidSign", "b"))
        self.assertEqual(told(opposite, {"a": -2}), ("InvalidSign", "a"))
        self.assertEqual(told(opposite, {"a": HUGE}), ("InvalidSign", "a"))

    def test_nothing_is_tied(self):
        signs = {"b": 1, "a": -1}
        other = opposite(signs)
        other["a"] = 7
        self.assertEqual((signs, list(signs)), ({"b": 1, "a": -1}, ["b", "a"]))
        self.assertEqual(opposite(signs), {"a": 1, "b": -1})


class AsFar(unittest.TestCase):
    def test_against_the_words(self):
        futures = [dict(zip("ab", values)) for values in product(range(-1, 3), repeat=2)]
        for signs in directions_of("ab") + directions_of("b") + [{}]:
            for first in futures:
                for second in futures:
                    self.assertIs(is_as_far(first, second, signs), far_by_words(first, second, signs))

    def test_great_values_and_further_gauges(self):
        self.assertIs(is_as_far({"a": HUGE, "b": 0}, {"a": HUGE - 1, "c": 5}, {"a": 1}), True)
        self.assertIs(is_as_far({"a": HUGE, "b": 0}, {"a": HUGE - 1, "c": 5}, {"a": -1}), False)
        self.assertIs(is_as_far({}, {}, {}), True)

    def test_errors(self):
        self.assertEqual(told(is_as_far, {}, {}, {"c": 0, "a": 1, "b": 3}), ("InvalidSign", "b"))
        self.assertEqual(told(is_as_far, {"b": 1}, {}, {"b": 1, "c": 1}), ("MissingGauge", "b"))
        self.assertEqual(told(is_as_far, {"b": 1}, {"b": 1, "c": 1}, {"b": 1, "c": 1}), ("MissingGauge", "c"))
        self.assertEqual(told(is_as_far, {"a": 1, "c": 1}, {"b": 1, "c": 1}, {"b": 1, "a": -1}), ("MissingGauge", "a"))
        self.assertEqual(told(is_as_far, {"a": 1}, {"a": 9}, {"a": 1, "b": -1}), ("MissingGauge", "b"))


class Corners(unittest.TestCase):
    def test_against_all_futures_of_the_cell(self):
        dice = random.Random(40)
        for _ in range(20):
            kind = Kind(NAMES[:3], random_boxes(dice, 3, 3, 3))
            for index, cell in enumerate(kind.cells):
                futures = [dict(zip(kind.gauges, point)) for point in points_of_box(cell)]
                for signs in directions_of(kind.gauges):
                    found = corner(kind, index, signs)
                    self.assertIn(found, futures)
                    self.assertTrue(all(far_by_words(found, future, signs) for future in futures))
                    self.assertEqual(list(found), list(kind.gauges))

    def test_errors(self):
        kind = Kind(["a", "b"], [[(0, 1), (2, 3)], [(5, 6), (2, 3)]])
        for index in (-1, 2, HUGE):
            self.assertEqual(told(corner, kind, index, {}), ("InvalidNumber", 2))
        self.assertEqual(told(corner, kind, 0, {"a": 5}), ("MissingGauge", "b"))
        self.assertEqual(told(corner, kind, 1, {"b": 0, "a": 0}), ("InvalidSign", "a"))
        self.assertEqual(told(corner, kind, 1, {"b": 0, "a": 1, "c": 7}), ("InvalidSign", "b"))

    def test_other_gauges_and_no_gauges(self):
        kind = Kind(["a", "b"], [[(0, BIG), (2, 3)]])
        self.assertEqual(corner(kind, 0, {"c": 9, "b": -1, "a": 1}), {"a": BIG, "b": 2})
        self.assertEqual(corner(Kind([], [[]]), 0, {"a": 9}), {})

    def test_nothing_is_tied(self):
        kind, signs = menu("a", [1]), {"b": 1, "a": 1}
        corner(kind, 0, signs)["a"] = 5
        self.assertEqual((corner(kind, 0, signs), list(signs)), ({"a": 1}, ["b", "a"]))


class Ends(unittest.TestCase):
    def test_against_all_futures_in_all_directions(self):
        dice = random.Random(41)
        for width in (0, 1, 2, 3, 4) * 12:
            kind = Kind(NAMES[:width], random_boxes(dice, width, 3, 5))
            futures = futures_of(kind)
            for signs in directions_of(kind.gauges):
                expected = [one for one in futures if not any(
                    other != one and far_by_words(other, one, signs) for other in futures)]
                found = ends(kind, signs)
                self.assertEqual(found, expected)
                for future in futures:
                    self.assertTrue(any(far_by_words(end, future, signs) for end in found))

    def test_order_and_keys(self):
        kind = Kind(["b", "a"], [[(0, at), (0, 5 - at)] for at in range(6)])
        found = ends(kind, {"a": 1, "b": 1, "z": 0})
        self.assertEqual(found, [{"a": at, "b": 5 - at} for at in range(6)])
        self.assertEqual([list(future) for future in found], [["a", "b"]] * 6)
        self.assertEqual(ends(kind, {"a": -1, "b": 1}), [{"a": 0, "b": 5}])

    def test_300_cells_and_great_values(self):
        kind = Kind(["a", "b"], [[(0, at * BIG), (0, (299 - at) * BIG)] for at in range(300)])
        self.assertEqual(ends(kind, {"a": 1, "b": 1}), [{"a": at * BIG, "b": (299 - at) * BIG} for at in range(300)])
        self.assertEqual(ends(kind, {"a": -1, "b": -1}), [{"a": 0, "b": 0}])

    def test_errors(self):
        kind = Kind(["a", "b", "c"], [[(0, 1)] * 3])
        self.assertEqual(told(ends, kind, {"a": 3, "d": 1}), ("MissingGauge", "b"))
        self.assertEqual(told(ends, kind, {"a": 1, "b": -1, "d": 1}), ("MissingGauge", "c"))
        self.assertEqual(told(ends, kind, {"c": 3, "b": 0, "a": 1}), ("InvalidSign", "b"))
        self.assertEqual(told(ends, kind, {"c": 1, "b": 1, "a": -3}), ("InvalidSign", "a"))
        self.assertIsNone(told(ends, kind, {"c": 1, "b": 1, "a": 1, "d": 8}))

    def test_nothing_is_tied(self):
        kind, signs = menu("a", [1, 4]), {"a": 1}
        found = ends(kind, signs)
        found[0]["a"] = 9
        found.append({})
        self.assertEqual((ends(kind, signs), signs), ([{"a": 4}], {"a": 1}))


if __name__ == "__main__":
    unittest.main()

"""Point 12: the operators of kinds."""

import random
import unittest

from everyfuture.kinds import Kind, menu
from tests.brute import BIG, HUGE, cells_by_words, futures_of, points_of, random_boxes, told

NAMES = ["a", "b", "c", "d", "e", "f", "g", "h", "i", "j", "k", "l"]


def union(first, second):
    return first | second


def common(first, second):
    return first & second


def without(first, second):
    return first - second


def product(first, second):
    return first * second


class Sets(unittest.TestCase):
    def check(self, kind, points):
        self.assertEqual(kind.cells, cells_by_words(points))

    def test_against_sets_of_futures(self):
        dice = random.Random(20)
        for _ in range(300):
            width = dice.randint(0, 3)
            first = Kind(NAMES[:width], random_boxes(dice, width, 4, 4))
            second = Kind(NAMES[:width], random_boxes(dice, width, 4, 4))
            ours, theirs = points_of(first.cells), points_of(second.cells)
            self.check(first | second, ours | theirs)
            for call, left in ((common, ours & theirs), (without, ours - theirs)):
                if left:
                    self.check(call(first, second), left)
                else:
                    self.assertEqual(told(call, first, second), ("EmptyKind",))
            self.assertIs(first.is_part_of(second), ours <= theirs)
            self.assertIs((first & first).is_part_of(first | second), True)

    def test_with_itself(self):
        kind = Kind(["a", "b"], [[(0, BIG), (3, 3)], [(4, 5), (0, 9)]])
        self.assertEqual((kind | kind, kind & kind), (kind, kind))
        self.assertEqual(told(without, kind, kind), ("EmptyKind",))
        self.assertIs(kind.is_part_of(kind), True)

    def test_great_values(self):
        first = Kind(["a", "b"], [[(0, BIG), (0, BIG)]])
        second = Kind(["a", "b"], [[(1, BIG - 1), (1, HUGE)]])
        self.assertEqual((first - second).cells, (((0, 0), (0, BIG)), ((1, BIG - 1), (0, 0)), ((BIG, BIG), (0, BIG))))
        self.assertEqual((first & second).cells, (((1, BIG - 1), (1, BIG)),))
        self.assertEqual((first | second).size(), first.size() + second.size() - (first & second).size())
        self.assertIs(first.is_part_of(second), False)
        self.assertIs((first & second).is_part_of(second), True)

    def test_without_gauges(self):
        unit = Kind([], [[]])
        self.assertEqual((unit | unit, unit & unit), (unit, unit))
        self.assertEqual(told(without, unit, unit), ("EmptyKind",))

    def test_the_first_gauge_that_only_one_has(self):
        first = Kind(["b", "d", "e"], [[(0, 1)] * 3])
        second = Kind(["b", "c", "e"], [[(0, 1)] * 3])
        for call in (union, common, without, Kind.is_part_of):
            self.assertEqual(told(call, first, second), ("OtherGauges", "c"))
            self.assertEqual(told(call, second, first), ("OtherGauges", "c"))
            self.assertEqual(told(call, first, Kind([], [[]])), ("OtherGauges", "b"))
            self.assertEqual(told(call, menu("a", [1]), menu("a1", [1])), ("OtherGauges", "a"))

    def test_many_cells_of_many_gauges(self):
        """Kinds of twelve gauges in which one after another is great, put together and taken apart again."""
        rest = Kind(NAMES, [[(0, 9)] * 12])
        whole = rest
        for at in range(12):
            rest = rest - Kind(NAMES, [[(5, 9) if gauge == at else (0, 9) for gauge in range(12)]])
        self.assertEqual(rest.cells, (((0, 4),) * 12,))
        others = whole - rest
        self.assertEqual(len(others.cells), 12)
        self.assertEqual(others.size(), 10 ** 12 - 5 ** 12)
        self.assertEqual(others | rest, whole)
        self.assertEqual(told(common, others, rest), ("EmptyKind",))

    def test_kinds_with_300_cells(self):
        stairs = Kind(["a", "b", "c"], [[(0, at), (0, 299 - at), (0, BIG)] for at in range(300)])
        others = Kind(["a", "b", "c"], [[(at, 299), (300 - at, 300), (0, BIG)] for at in range(300)])
        self.assertEqual((stairs | others).cells, (((0, 299), (0, 300), (0, BIG)),))
        self.assertEqual(((stairs | others) - stairs), others)
        self.assertEqual(told(common, stairs, others), ("EmptyKind",))

    def test_operators_change_nothing(self):
        first, second = menu("a", [1, 2]), menu("a", [2, 3])
        for call in (union, common, without):
            call(first, second)
        first.is_part_of(second)
        self.assertEqual((first.cells, second.cells), ((((1, 2),),), (((2, 3),),)))


class Products(unittest.TestCase):
    def test_against_all_futures(self):
        dice = random.Random(21)
        for _ in range(100):
            names = dice.sample(NAMES[:5], dice.randint(0, 4))
            cut = dice.randint(0, len(names))
            first = Kind(names[:cut], random_boxes(dice, cut, 3, 3))
            second = Kind(names[cut:], random_boxes(dice, len(names) - cut, 3, 3))
            joint = first * second
            futures = [dict(one, **other) for one in futures_of(first) for other in futures_of(second)]
            self.assertEqual(joint.gauges, tuple(sorted(names)))
            points = {tuple(future[name] for name in sorted(names)) for future in futures}
            self.assertEqual(joint.cells, cells_by_words(points))
            self.assertEqual(joint.size(), first.size() * second.size())
            self.assertEqual(second * first, joint)

    def test_gauges_between_one_another(self):
        first = Kind(["a", "c"], [[(0, 0), (1, 1)], [(5, BIG), (2, 3)]])
        second = menu("b", [7, 9])
        self.assertEqual((first * second).cells, (((0, 0), (7, 7), (1, 1)), ((0, 0), (9, 9), (1, 1)),
                                                  ((5, BIG), (7, 7), (2, 3)), ((5, BIG), (9, 9), (2, 3))))

    def test_cells_are_in_order_whatever_the_order_of_the_gauges(self):
        first = Kind(["a", "c"], [[(0, 0), (0, 0)], [(0, 0), (5, 5)]])
        expected = tuple(((0, 0), (b, b), (c, c)) for b in (7, 9) for c in (0, 5))
        self.assertEqual((first * menu("b", [7, 9])).cells, expected)
        self.assertEqual((menu("b", [7, 9]) * first).cells, expected)

    def test_the_unit(self):
        kind = menu("a", [1, 4])
        self.assertEqual((Kind([], [[]]) * kind, kind * Kind([], [[]])), (kind, kind))

    def test_the_first_common_gauge(self):
        first = Kind(["a", "c", "d"], [[(0, 1)] * 3])
        second = Kind(["d", "b", "c"], [[(0, 1)] * 3])
        self.assertEqual(told(product, first, second), ("SharedGauge", "c"))
        self.assertEqual(told(product, second, first), ("SharedGauge", "c"))


class Others(unittest.TestCase):
    def test_futures_in_kinds(self):
        kind = Kind(["a", "b"], [[(0, 3), (5, BIG)], [(9, 9), (0, 0)]])
        for future in ({"a": 0, "b": 5}, {"a": 3, "b": BIG}, {"b": 0, "a": 9, "c": -4}):
            self.assertIs(future in kind, True)
        for future in ({}, {"a": 0}, {"b": 5}, {"a": 4, "b": 5}, {"a": 9, "b": 5}, {"a": 0, "b": 0},
                       {"a": -1, "b": 5}, {"a": 3, "b": BIG + 1}, {"a": -HUGE, "b": HUGE}):
            self.assertIs(future in kind, False)
        self.assertIs({} in Kind([], [[]]), True)
        self.assertIs({"a": 5} in Kind([], [[]]), True)

    def test_in_against_all_futures(self):
        dice = random.Random(22)
        for _ in range(30):
            kind = Kind(NAMES[:3], random_boxes(dice, 3, 3, 3))
            points = points_of(kind.cells)
            for point in points_of([[(0, 4)] * 3]):
                self.assertIs(dict(zip(NAMES, point)) in kind, point in points)

    def test_equality(self):
        kind = Kind(["a", "b"], [[(0, 3), (0, 1)], [(2, 5), (0, 4)]])
        same = Kind(["b", "a"], [[(0, 1), (0, 1)], [(0, 4), (2, 5)]])
        self.assertIs(kind == same, True)
        self.assertIs(kind != same, False)
        for other in (Kind(["a", "c"], kind.cells), Kind(["a", "b"], kind.cells[:1]), kind.cells, None, 3, "kind"):
            self.assertIs(kind == other, False)
            self.assertIs(kind != other, True)
        self.assertIs(Kind([], [[]]) == Kind([], [[], []]), True)
        self.assertIs(Kind([], [[]]) == menu("a", [0]), False)

    def test_iteration_gives_the_cells(self):
        kind = Kind(["a", "b"], [[(0, 3), (0, 1)], [(2, 5), (0, 4)]])
        self.assertEqual(list(kind), [((0, 1), (0, 1)), ((2, 5), (0, 4))])
        self.assertEqual([cell for cell in kind], list(kind.cells))
        self.assertEqual(list(Kind([], [[]])), [()])

    def test_listed_methods_stand_in_the_class(self):
        for name in ("__or__", "__and__", "__sub__", "__mul__", "__contains__", "__eq__", "__iter__", "size",
                     "is_part_of", "cut", "onto", "span", "values_of", "future_at", "number_of", "complete"):
            self.assertIn(name, vars(Kind))
        self.assertEqual(sorted(vars(menu("a", [1]))), ["cells", "gauges"])


if __name__ == "__main__":
    unittest.main()

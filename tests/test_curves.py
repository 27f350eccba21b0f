"""Point 24: curves."""

import random
import unittest

from everyfuture.curves import Curve
from tests.brute import BIG, HUGE, told

FAR = 80


def random_curve(dice):
    """Return a curve whose pieces begin before 12 and whose level up to 20 lies before FAR."""
    many = dice.randint(1, 4)
    starts = [0] + sorted(dice.sample(range(1, 12), many - 1))
    slopes = sorted(dice.sample(range(-6, 8), many))
    slopes[-1] = max(slopes[-1], 1)
    return Curve(dice.randint(-9, 9), list(zip(starts, slopes)))


def values_by_words(curve):
    """Return the values from 0 up to FAR, found step by step."""
    values = [curve.base]
    for x in range(FAR):
        values.append(values[-1] + [slope for start, slope in curve.pieces if start <= x][-1])
    return values


class Creation(unittest.TestCase):
    def test_attributes_are_those_of_the_creation(self):
        curve = Curve(-7, [(0, -3), (5, 2)])
        self.assertEqual((curve.base, curve.pieces), (-7, ((0, -3), (5, 2))))
        self.assertEqual(list(curve), [(0, -3), (5, 2)])
        self.assertEqual(Curve(-7, ((0, -3), (5, 2))), curve)

    def test_the_first_wrong_piece(self):
        self.assertEqual(told(Curve, 0, [(1, 1)]), ("InvalidCurve", 0))
        self.assertEqual(told(Curve, 0, [(-1, 1), (-2, 0)]), ("InvalidCurve", 0))
        self.assertEqual(told(Curve, 0, [(0, 1), (0, 2)]), ("InvalidCurve", 1))
        self.assertEqual(told(Curve, 0, [(0, 1), (3, 1), (3, 0)]), ("InvalidCurve", 1))
        self.assertEqual(told(Curve, 0, [(0, -5), (3, -4), (2, 3)]), ("InvalidCurve", 2))
        self.assertEqual(told(Curve, 0, [(0, -5), (3, -6), (2, 3)]), ("InvalidCurve", 1))

    def test_no_piece_and_no_rise(self):
        self.assertEqual(told(Curve, 0, []), ("InvalidCurve", 0))
        self.assertEqual(told(Curve, 0, ()), ("InvalidCurve", 0))
        self.assertEqual(told(Curve, 0, [(0, 0)]), ("InvalidCurve", 1))
        self.assertEqual(told(Curve, 0, [(0, -5), (3, -4), (8, 0)]), ("InvalidCurve", 3))
        self.assertEqual(told(Curve, 0, [(1, -5), (3, -6)]), ("InvalidCurve", 0))

    def test_nothing_is_tied(self):
        pieces = [(0, -1), (4, 3)]
        curve = Curve(1, pieces)
        pieces[0] = (0, 9)
        curve.level(3).append((0, 0))
        list(curve).append((9, 9))
        self.assertEqual((curve.pieces, curve.level(3)), (((0, -1), (4, 3)), [(1, 5)]))


class Values(unittest.TestCase):
    def test_at_beside_and_between_the_starts(self):
        curve = Curve(10, [(0, -3), (2, 0), (5, 4)])
        self.assertEqual([curve(x) for x in range(8)], [10, 7, 4, 4, 4, 4, 8, 12])
        self.assertEqual([curve.slope(x) for x in range(8)], [-3, -3, 0, 0, 0, 4, 4, 4])

    def test_negative_places(self):
        curve = Curve(0, [(0, 1)])
        for x in (-1, -HUGE):
            self.assertEqual(told(curve, x), ("InvalidAmount", x))
            self.assertEqual(told(curve.slope, x), ("InvalidAmount", x))

    def test_very_large_places(self):
        curve = Curve(5, [(0, -BIG), (BIG, BIG + 1)])
        self.assertEqual(curve(BIG), 5 - BIG * BIG)
        self.assertEqual(curve(HUGE), 5 - BIG * BIG + (HUGE - BIG) * (BIG + 1))
        self.assertEqual((curve.slope(BIG - 1), curve.slope(BIG), curve.slope(HUGE)), (-BIG, BIG + 1, BIG + 1))

    def test_against_steps(self):
        dice = random.Random(50)
        for _ in range(100):
            curve = random_curve(dice)
            values = values_by_words(curve)
            self.assertEqual([curve(x) for x in range(FAR + 1)], values)
            self.assertEqual([curve.slope(x) for x in range(FAR)], [b - a for a, b in zip(values, values[1:])])


class Levels(unittest.TestCase):
    def test_lowest_and_level_against_steps(self):
        dice = random.Random(51)
        for _ in range(200):
            curve = random_curve(dice)
            values = values_by_words(curve)
            least = min(values)
            places = [x for x, value in enumerate(values) if value == least]
            self.assertEqual(curve.lowest(), (least, places[0], places[-1]))
            for limit in range(21):
                places = [x for x, value in enumerate(values) if value <= least + limit]
                self.assertEqual(curve.level(limit), [(places[0], places[-1])])

    def test_levels_exactly_met_and_missed_by_one(self):
        curve = Curve(30, [(0, -3), (10, 5)])
        self.assertEqual(curve.lowest(), (0, 10, 10))
        self.assertEqual([curve.level(limit) for limit in (0, 2, 3, 4, 5, 6, 14, 15)],
                         [[(10, 10)], [(10, 10)], [(9, 10)], [(9, 10)], [(9, 11)], [(8, 11)], [(6, 12)], [(5, 13)]])
        self.assertEqual([curve.level(limit) for limit in (29, 30, 31, 34, 35)],
                         [[(1, 15)], [(0, 16)], [(0, 16)], [(0, 16)], [(0, 17)]])

    def test_levels_over_several_pieces(self):
        curve = Curve(100, [(0, -20), (3, -5), (7, 0), (9, 1), (12, 10)])
        self.assertEqual(curve.lowest(), (20, 7, 9))
        self.assertEqual([curve.level(limit) for limit in (0, 3, 4, 5, 19, 20, 39, 40)],
                         [[(7, 9)], [(7, 12)], [(7, 12)], [(6, 12)], [(4, 13)], [(3, 13)], [(3, 15)], [(2, 15)]])

    def test_a_negative_limit(self):
        self.assertEqual(Curve(3, [(0, 1)]).level(-1), [])
        self.assertEqual(Curve(3, [(0, 1)]).level(-HUGE), [])

    def test_curves_that_never_fall(self):
        self.assertEqual(Curve(3, [(0, 2)]).lowest(), (3, 0, 0))
        self.assertEqual(Curve(3, [(0, 2)]).level(5), [(0, 2)])
        self.assertEqual(Curve(3, [(0, 0), (4, 2)]).lowest(), (3, 0, 4))
        self.assertEqual(Curve(3, [(0, 0), (4, 2)]).level(5), [(0, 6)])

    def test_very_large_levels(self):
        curve = Curve(0, [(0, -3), (BIG, 7)])
        self.assertEqual(curve.lowest(), (-3 * BIG, BIG, BIG))
        self.assertEqual(curve.level(2 * BIG), [(BIG - 2 * BIG // 3, BIG + 2 * BIG // 7)])
        self.assertEqual(curve.level(HUGE), [(0, BIG + HUGE // 7)])


class Sums(unittest.TestCase):
    def test_against_values(self):
        dice = random.Random(52)
        for _ in range(100):
            first, second = random_curve(dice), random_curve(dice)
            joint = first + second
            self.assertEqual([joint(x) for x in range(FAR)], [first(x) + second(x) for x in range(FAR)])
            self.assertEqual(second + first, joint)
            self.assertIs(type(joint), Curve)

    def test_equality(self):
        curve = Curve(1, [(0, -1), (4, 3)])
        self.assertIs(curve == Curve(1, ((0, -1), (4, 3))), True)
        for other in (Curve(2, [(0, -1), (4, 3)]), Curve(1, [(0, -1), (5, 3)]), Curve(1, [(0, 3)]), curve.pieces, None):
            self.assertIs(curve == other, False)
            self.assertIs(curve != other, True)

    def test_listed_methods_stand_in_the_class(self):
        for name in ("__call__", "__add__", "__eq__", "__iter__", "slope", "lowest", "level"):
            self.assertIn(name, vars(Curve))
        self.assertEqual(sorted(vars(Curve(0, [(0, 1)]))), ["base", "pieces"])


if __name__ == "__main__":
    unittest.main()

"""Points 25 and 26: lines."""

import random
import unittest

from everyfuture.lines import Line
from tests.brute import BIG, HUGE, told

PLACES = range(-30, 31)


def random_line(dice):
    positions = sorted(dice.sample(range(-8, 9), dice.randint(0, 4)))
    return Line(dice.randint(-9, 9), dice.randint(-9, 5), [(position, dice.randint(1, 5)) for position in positions])


def slope_by_words(line, x):
    return line.left + sum(rise for position, rise in line.corners if position <= x)


def value_by_words(line, x):
    """Return the value at x, found step by step from 0 on."""
    if x >= 0:
        return line.base + sum(slope_by_words(line, step) for step in range(x))
    return line.base - sum(slope_by_words(line, step) for step in range(x, 0))


class Creation(unittest.TestCase):
    def test_attributes_are_those_of_the_creation(self):
        line = Line(-7, 3, [(-4, 1), (6, 2)])
        self.assertEqual((line.base, line.left, line.corners), (-7, 3, ((-4, 1), (6, 2))))
        self.assertEqual(Line(0, 0, ()).corners, ())
        self.assertEqual(Line(-7, 3, ((-4, 1), (6, 2))), line)

    def test_the_first_wrong_corner(self):
        self.assertEqual(told(Line, 0, 0, [(3, 0)]), ("InvalidCorner", 0))
        self.assertEqual(told(Line, 0, 0, [(3, 1), (4, -1), (1, 1)]), ("InvalidCorner", 1))
        self.assertEqual(told(Line, 0, 0, [(3, 1), (3, 1)]), ("InvalidCorner", 1))
        self.assertEqual(told(Line, 0, 0, [(3, 1), (4, 1), (2, 1), (9, 0)]), ("InvalidCorner", 2))

    def test_nothing_is_tied(self):
        corners = [(1, 2)]
        line = Line(0, 0, corners)
        corners.append((5, 5))
        self.assertEqual((line.corners, line(7)), (((1, 2),), 12))


class Values(unittest.TestCase):
    def test_at_beside_and_between_the_positions(self):
        line = Line(10, -3, [(-2, 1), (1, 4)])
        self.assertEqual([line(x) for x in range(-4, 5)], [20, 17, 14, 12, 10, 8, 10, 12, 14])
        self.assertEqual([line.slope(x) for x in range(-4, 5)], [-3, -3, -2, -2, -2, 2, 2, 2, 2])

    def test_against_steps(self):
        dice = random.Random(60)
        for _ in range(100):
            line = random_line(dice)
            self.assertEqual([line(x) for x in PLACES], [value_by_words(line, x) for x in PLACES])
            self.assertEqual([line.slope(x) for x in PLACES], [line(x + 1) - line(x) for x in PLACES])

    def test_very_large_places(self):
        line = Line(5, -BIG, [(-BIG, 3), (BIG, 4)])
        self.assertEqual(line(BIG), 5 + BIG * (3 - BIG))
        self.assertEqual(line(HUGE), 5 + HUGE * (3 - BIG) + 4 * (HUGE - BIG))
        self.assertEqual(line(-HUGE), 5 - BIG * (3 - BIG) - (HUGE - BIG) * -BIG)
        self.assertEqual([line.slope(x) for x in (-HUGE, -BIG - 1, -BIG, BIG - 1, BIG, HUGE)],
                         [-BIG, -BIG, 3 - BIG, 3 - BIG, 7 - BIG, 7 - BIG])


class Sums(unittest.TestCase):
    def test_sums_against_values(self):
        dice = random.Random(61)
        for _ in range(100):
            first, second = random_line(dice), random_line(dice)
            joint = first + second
            self.assertEqual([joint(x) for x in PLACES], [first(x) + second(x) for x in PLACES])
            self.assertEqual(second + first, joint)

    def test_moved_against_values(self):
        dice = random.Random(62)
        for _ in range(100):
            line, by = random_line(dice), dice.randint(-12, 12)
            self.assertEqual([line.moved(by)(x) for x in PLACES], [line(x - by) for x in PLACES])
            self.assertEqual(line.moved(by).moved(-by), line)

    def test_moved_far(self):
        line = Line(0, -4, [(0, 5)]).moved(HUGE)
        self.assertEqual((line.base, line.left, line.corners), (4 * HUGE, -4, ((HUGE, 5),)))

    def test_equality(self):
        line = Line(1, 2, [(3, 4)])
        self.assertIs(line == Line(1, 2, ((3, 4),)), True)
        for other in (Line(0, 2, [(3, 4)]), Line(1, 0, [(3, 4)]), Line(1, 2, [(3, 5)]), Line(1, 2, [(2, 4)]),
                      Line(1, 2, []), ((3, 4),), None):
            self.assertIs(line == other, False)
            self.assertIs(line != other, True)

    def test_listed_methods_stand_in_the_class(self):
        for name in ("__call__", "__add__", "__eq__", "slope", "moved", "fed"):
            self.assertIn(name, vars(Line))
        self.assertEqual(sorted(vars(Line(0, 0, []))), ["base", "corners", "left"])


class Fed(unittest.TestCase):
    def test_against_all_amounts(self):
        dice = random.Random(63)
        bounded = 0
        for _ in range(300):
            line = random_line(dice)
            price, room, extra = dice.randint(0, 5), dice.randint(0, 5), dice.randint(0, 4)
            if line.slope(99) < -(price + extra):
                self.assertEqual(told(line.fed, price, room, extra), ("Unbounded",))
                continue
            bounded += 1
            fed = line.fed(price, room, extra)
            for x in range(-22, 15):
                # Beyond all corners and the room, buying more never pays.
                costs = [price * q + extra * max(0, q - room) + line(x + q) for q in range(45)]
                self.assertEqual(fed(x), min(costs))
                here, after = [max(line.slope(y), -(price + extra)) for y in (x, x + room)]
                self.assertEqual(fed.slope(x), max(here, min(-price, after)))
        self.assertGreater(bounded, 100)

    def test_the_first_negative_number(self):
        line = Line(0, -9, [])
        self.assertEqual(told(line.fed, -1, -2, -3), ("InvalidAmount", -1))
        self.assertEqual(told(line.fed, 0, -2, -3), ("InvalidAmount", -2))
        self.assertEqual(told(line.fed, 0, 0, -3), ("InvalidAmount", -3))
        self.assertEqual(told(line.fed, 5, 1, 3), ("Unbounded",))
        self.assertIsNone(told(line.fed, 5, 1, 4))

    def test_unbounded_looks_behind_the_last_corner(self):
        self.assertEqual(told(Line(0, -20, [(5, 3)]).fed, 9, 0, 7), ("Unbounded",))
        self.assertEqual(Line(0, -20, [(5, 4)]).fed(9, 0, 7)(0), -20)
        self.assertEqual(told(Line(0, -1, []).fed, 0, BIG, 0), ("Unbounded",))

    def test_no_room_and_no_extra(self):
        line = Line(0, -4, [(0, 5)])
        self.assertEqual(line.fed(3, 0, 1), Line(0, -4, [(0, 5)]))
        self.assertEqual(line.fed(3, 7, 0), Line(0, -3, [(0, 4)]))
        self.assertEqual(line.fed(0, 0, 0), Line(0, 0, [(0, 1)]))

    def test_very_large_numbers(self):
        line = Line(0, -BIG, [(BIG, 2 * BIG)])
        fed = line.fed(BIG // 2, HUGE, BIG)
        self.assertEqual((fed.left, fed.corners), (-BIG, ((BIG - HUGE, BIG // 2), (BIG, BIG + BIG // 2))))
        self.assertEqual(fed(0), BIG * (BIG // 2) - BIG * BIG)

    def test_the_line_itself_stays(self):
        line = Line(0, -4, [(0, 5)])
        line.fed(3, 2, 1)
        line.moved(3)
        self.assertEqual((line.base, line.left, line.corners), (0, -4, ((0, 5),)))


if __name__ == "__main__":
    unittest.main()

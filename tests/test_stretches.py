"""Point 5 and the interface of stretches.py."""

import random
import unittest

from everyfuture.stretches import common_stretches, has_number, join_stretches
from tests.brute import HUGE


def numbers_of(stretches):
    return {number for low, high in stretches for number in range(low, high + 1)}


def by_words(numbers):
    """Return the stretch list of a set of integers, found number by number."""
    lows = sorted(number for number in numbers if number - 1 not in numbers)
    highs = sorted(number for number in numbers if number + 1 not in numbers)
    return list(zip(lows, highs))


class Join(unittest.TestCase):
    def test_nothing_and_one_integer(self):
        self.assertEqual(join_stretches([]), [])
        self.assertEqual(join_stretches(()), [])
        self.assertEqual(join_stretches([(4, 4)]), [(4, 4)])
        self.assertEqual(join_stretches([(4, 4), (4, 4)]), [(4, 4)])

    def test_touching_overlapping_and_apart(self):
        self.assertEqual(join_stretches([(1, 2), (3, 4)]), [(1, 4)])
        self.assertEqual(join_stretches([(1, 2), (4, 5)]), [(1, 2), (4, 5)])
        self.assertEqual(join_stretches([(1, 5), (2, 3), (5, 7)]), [(1, 7)])
        self.assertEqual(join_stretches([(1, 9), (2, 3), (10, 10)]), [(1, 10)])

    def test_any_order_and_tuples(self):
        self.assertEqual(join_stretches(((7, 8), (-3, -2), (0, 0), (-1, -1))), [(-3, 0), (7, 8)])

    def test_very_large_numbers(self):
        stretches = [(HUGE, HUGE + 5), (-HUGE, -HUGE), (HUGE + 6, 2 * HUGE), (-HUGE + 2, 0)]
        self.assertEqual(join_stretches(stretches), [(-HUGE, -HUGE), (-HUGE + 2, 0), (HUGE, 2 * HUGE)])

    def test_against_the_numbers_themselves(self):
        dice = random.Random(5)
        for _ in range(300):
            lows = [dice.randint(-12, 12) for _ in range(dice.randint(0, 6))]
            stretches = [(low, low + dice.randint(0, 4)) for low in lows]
            self.assertEqual(join_stretches(stretches), by_words(numbers_of(stretches)))

    def test_nothing_that_is_passed_or_returned_is_tied(self):
        passed = [(5, 6), (1, 2)]
        joined = join_stretches(passed)
        joined.append((9, 9))
        self.assertEqual(passed, [(5, 6), (1, 2)])
        self.assertEqual(join_stretches(passed), [(1, 2), (5, 6)])
        single = [(1, 2)]
        self.assertIsNot(join_stretches(single), single)


class Common(unittest.TestCase):
    def test_nothing_in_common(self):
        self.assertEqual(common_stretches([], []), [])
        self.assertEqual(common_stretches([(1, 5)], []), [])
        self.assertEqual(common_stretches([], [(1, 5)]), [])
        self.assertEqual(common_stretches([(1, 2)], [(3, 4)]), [])

    def test_single_integers_and_several_stretches(self):
        self.assertEqual(common_stretches([(1, 3)], [(3, 5)]), [(3, 3)])
        self.assertEqual(common_stretches([(1, 20)], [(-4, 2), (5, 5), (19, 30)]), [(1, 2), (5, 5), (19, 20)])
        self.assertEqual(common_stretches(((-9, -5), (0, 0)), ((-7, 4),)), [(-7, -5), (0, 0)])

    def test_very_large_numbers(self):
        self.assertEqual(common_stretches([(-HUGE, HUGE)], [(HUGE - 1, 9 * HUGE)]), [(HUGE - 1, HUGE)])

    def test_against_the_numbers_themselves(self):
        dice = random.Random(6)
        for _ in range(300):
            first = {dice.randint(-8, 8) for _ in range(dice.randint(0, 12))}
            second = {dice.randint(-8, 8) for _ in range(dice.randint(0, 12))}
            self.assertEqual(common_stretches(by_words(first), by_words(second)), by_words(first & second))

    def test_nothing_that_is_passed_or_returned_is_tied(self):
        first, second = [(1, 5)], [(1, 5)]
        found = common_stretches(first, second)
        found.append((9, 9))
        self.assertEqual((first, second, common_stretches(first, second)), ([(1, 5)], [(1, 5)], [(1, 5)]))


class Has(unittest.TestCase):
    def test_ends_and_gaps(self):
        stretches = [(-3, -1), (4, 4), (6, HUGE)]
        for number in (-3, -2, -1, 4, 6, 7, HUGE):
            self.assertIs(has_number(stretches, number), True)
        for number in (-HUGE, -4, 0, 3, 5, HUGE + 1):
            self.assertIs(has_number(stretches, number), False)

    def test_no_stretches_and_tuples(self):
        self.assertIs(has_number([], 0), False)
        self.assertIs(has_number(((0, 0),), 0), True)


if __name__ == "__main__":
    unittest.main()

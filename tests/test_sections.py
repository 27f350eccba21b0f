"""Point 41: ratios and sections."""

import random
import unittest
from fractions import Fraction

from everyfuture.sections import make_ratio, sections
from tests.brute import BIG, HUGE


def sections_by_words(steps, start=0):
    """Return the sections as point 41 says, with fractions."""
    if start == len(steps):
        return []
    sums = [(sum(worth for _, worth in steps[start:end]), sum(hours for hours, _ in steps[start:end]), end)
            for end in range(start + 1, len(steps) + 1)]
    greatest = max(Fraction(worth, hours) for worth, hours, _ in sums)
    worth, hours, end = [row for row in sums if Fraction(row[0], row[1]) == greatest][-1]
    return [(start, end, worth, hours), *sections_by_words(steps, end)]


class Ratios(unittest.TestCase):
    def test_lowest_terms(self):
        for numerator, denominator, ratio in ((2, 4, (1, 2)), (4, 2, (2, 1)), (3, 7, (3, 7)), (0, 5, (0, 1)),
                                              (0, 1, (0, 1)), (6, 1, (6, 1)), (-4, 6, (-2, 3)), (-3, 1, (-3, 1))):
            self.assertEqual(make_ratio(numerator, denominator), ratio)
            self.assertIs(type(make_ratio(numerator, denominator)), tuple)

    def test_great_numbers(self):
        self.assertEqual(make_ratio(HUGE * BIG, HUGE * 6), (BIG // 2, 3))
        self.assertEqual(make_ratio(BIG, BIG + 1), (BIG, BIG + 1))
        dice = random.Random(100)
        for _ in range(100):
            one, two = dice.randint(-HUGE, HUGE), dice.randint(1, HUGE)
            fraction = Fraction(one, two)
            self.assertEqual(make_ratio(one * 60, two * 60), (fraction.numerator, fraction.denominator))


class Sections(unittest.TestCase):
    def test_plain_steps(self):
        self.assertEqual(sections([]), [])
        self.assertEqual(sections([(3, 2)]), [(0, 1, 2, 3)])
        self.assertEqual(sections([(1, 0), (3, 1)]), [(0, 2, 1, 4)])
        self.assertEqual(sections([(1, 5), (1, 4), (1, 9), (2, 0), (1, 0)]), [(0, 3, 18, 3), (3, 5, 0, 3)])
        self.assertEqual(sections([(2, 3), (1, 0), (1, 1)]), [(0, 1, 3, 2), (1, 3, 1, 2)])

    def test_of_equal_ratios_the_longest_beginning_is_taken(self):
        self.assertEqual(sections([(1, 2), (2, 4), (1, 1), (1, 3)]), [(0, 4, 10, 5)])
        self.assertEqual(sections([(1, 0), (2, 0)]), [(0, 2, 0, 3)])

    def test_against_the_words(self):
        dice = random.Random(101)
        for _ in range(400):
            steps = [(dice.randint(1, 4), dice.randint(0, 5)) for _ in range(dice.randint(0, 9))]
            found = sections(steps)
            self.assertEqual(found, sections_by_words(steps))
            self.assertEqual(sections(tuple(steps)), found)
            ratios = [Fraction(worth, hours) for _, _, worth, hours in found]
            self.assertTrue(all(one > two for one, two in zip(ratios, ratios[1:])))

    def test_great_numbers(self):
        steps = [(BIG, BIG - 1), (BIG + 1, BIG), (BIG - 1, 1), (1, 0), (HUGE, 5 * HUGE)]
        self.assertEqual(sections(steps), sections_by_words(steps))
        self.assertEqual(sections([(BIG, BIG - 1), (BIG + 1, BIG)])[0][:2], (0, 2))
        self.assertEqual(sections([(BIG, BIG + 1), (BIG, BIG)])[0][:2], (0, 1))
        many = [(BIG - at * at % 7, BIG + at * 5 % 11) for at in range(60)]
        self.assertEqual(sections(many), sections_by_words(many))

    def test_nothing_is_tied(self):
        steps = [(1, 2), (3, 4)]
        found = sections(steps)
        found.append(5)
        self.assertEqual((steps, sections(steps)), ([(1, 2), (3, 4)], found[:-1]))


if __name__ == "__main__":
    unittest.main()

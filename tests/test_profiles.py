"""Point 37: profiles."""

import random
import unittest

from everyfuture.profiles import least_merge, sum_merge
from tests.brute import BIG, HUGE


def merged_by_words(first, second, joined):
    """Return the merge of two profiles, with the sum or the minimum of two entries."""
    merged = {}
    for i, one in enumerate(first):
        for j, two in enumerate(second):
            merged[i + j] = max(joined((one, two)), merged.get(i + j, -HUGE * HUGE))
    return [merged[k] for k in range(len(first) + len(second) - 1)]


class Merges(unittest.TestCase):
    def test_plain_profiles(self):
        self.assertEqual(sum_merge([1, 5], [2, 3, 9]), [3, 7, 10, 14])
        self.assertEqual(least_merge([1, 5], [2, 3, 9]), [1, 2, 3, 5])
        self.assertEqual(sum_merge([3, 5], [0]), [3, 5])
        self.assertEqual(least_merge([0], [3, 5]), [0, 0])
        self.assertEqual(least_merge([4], [3, 5]), [3, 4])
        self.assertEqual((sum_merge([4], [3]), least_merge([4], [3])), ([7], [3]))

    def test_against_the_words(self):
        dice = random.Random(87)
        for _ in range(300):
            first, second = [sorted(dice.randint(-3, 20) for _ in range(dice.randint(1, 7))) for _ in range(2)]
            self.assertEqual(sum_merge(first, second), merged_by_words(first, second, sum))
            self.assertEqual(least_merge(first, second), merged_by_words(first, second, min))
            self.assertEqual(sum_merge(tuple(first), second), sum_merge(second, first))
            self.assertEqual(least_merge(tuple(first), second), least_merge(second, first))

    def test_great_numbers(self):
        self.assertEqual(sum_merge([BIG, HUGE], [-HUGE, HUGE * BIG]), [BIG - HUGE, HUGE * BIG + BIG, HUGE * BIG + HUGE])
        self.assertEqual(least_merge([BIG, HUGE], [0, HUGE * BIG]), [0, BIG, HUGE])

    def test_nothing_is_tied(self):
        first, second = [1, 2], [0]
        merged = sum_merge(first, second), least_merge(first, second)
        self.assertEqual((first, second), ([1, 2], [0]))
        for row in merged:
            row.append(7)
        self.assertEqual((first, second, sum_merge(first, second)), ([1, 2], [0], [1, 2]))


if __name__ == "__main__":
    unittest.main()

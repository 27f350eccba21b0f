"""Point 43: backlogs and least totals."""

import random
import unittest
from itertools import combinations

from everyfuture.waits import backlogs, least_total
from tests.brute import BIG, HUGE


def served(rows, group):
    """Let a server work slot by slot, jobs of the group first; return their backlogs and their total wait."""
    waiting, left, total = [], [], 0
    slot = 0
    while slot < len(rows) or waiting:
        if slot < len(rows):
            waiting += [slot] * sum(rows[slot][at] for at in group)
        if waiting:
            total += slot - waiting.pop(0)
        left.append(len(waiting))
        slot += 1
    return left[:len(rows)], total


def random_rows(dice, classes, slots, most=4):
    return [[dice.choice((0, 0, 1, 2, dice.randint(0, most))) for _ in range(classes)] for _ in range(slots)]


class Waits(unittest.TestCase):
    def test_the_example_of_point_80(self):
        self.assertEqual((backlogs([[3], [1]], [0]), least_total([[3], [1]], [0])), ([2, 2], 5))

    def test_against_a_server_that_works_slot_by_slot(self):
        dice = random.Random(120)
        for _ in range(300):
            classes = dice.randint(1, 4)
            rows = random_rows(dice, classes, dice.randint(0, 6))
            for many in range(classes + 1):
                for group in combinations(range(classes), many):
                    left, total = served(rows, group)
                    self.assertEqual(backlogs(rows, list(group)), left)
                    self.assertEqual(least_total(rows, list(group)), total)
                    self.assertEqual(least_total(tuple(map(tuple, rows)), group), total)
                    self.assertEqual(sum(left) + sum(range(left[-1] if left else 0)), total)

    def test_idle_slots(self):
        self.assertEqual(backlogs([[0], [2], [0], [0], [0], [1]], [0]), [0, 1, 0, 0, 0, 0])
        self.assertEqual(least_total([[0], [2], [0], [0], [0], [1]], [0]), 1)
        self.assertEqual(backlogs([[1], [1], [1]], [0]), [0, 0, 0])

    def test_no_rows_and_no_classes(self):
        for group in ([], [0], [3, 7]):
            self.assertEqual((backlogs([], group), least_total([], group)), ([], 0))
        self.assertEqual((backlogs([[5], [6]], []), least_total([[5], [6]], [])), ([0, 0], 0))
        self.assertEqual((backlogs([[], []], []), least_total([[], []], [])), ([0, 0], 0))

    def test_great_numbers(self):
        rows = [[BIG, 0, 1], [0, BIG, 1]]
        self.assertEqual(backlogs(rows, [0]), [BIG - 1, BIG - 2])
        self.assertEqual(least_total(rows, [0]), BIG * (BIG - 1) // 2)
        self.assertEqual(backlogs(rows, [0, 1, 2]), [BIG, 2 * BIG])
        self.assertEqual(least_total(rows, [0, 1, 2]), 3 * BIG + BIG * (2 * BIG - 1))
        self.assertEqual(least_total([[HUGE]], [0]), HUGE * (HUGE - 1) // 2)

    def test_least_totals_of_two_groups(self):
        dice = random.Random(121)
        for _ in range(300):
            rows = random_rows(dice, 4, dice.randint(1, 5))
            first, second = [{at for at in range(4) if dice.random() < 0.5} for _ in range(2)]
            totals = [least_total(rows, sorted(group)) for group in (first, second, first | second, first & second)]
            self.assertLessEqual(totals[0] + totals[1], totals[2] + totals[3])

    def test_nothing_is_tied(self):
        rows, group = [[3], [1]], [0]
        backlogs(rows, group).append(7)
        self.assertEqual((rows, group, backlogs(rows, group)), ([[3], [1]], [0], [2, 2]))


if __name__ == "__main__":
    unittest.main()

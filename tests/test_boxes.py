"""Point 9: boxes that overlap, and the search for fewer boxes with the same futures."""

import random
import unittest

from everyfuture import cells
from everyfuture.boxes import all_widened, simplified, uncovered, widened
from everyfuture.kinds import Kind
from tests.brute import BIG, cells_by_words, points_of, points_of_box, random_boxes, split_boxes

NAMES = ["a", "b", "c", "d", "e", "f", "g", "h"]


def as_tuples(boxes):
    return [tuple(box) for box in boxes]


def stretched(dice, boxes, whole):
    """Return the boxes with some ends moved outwards, but not out of the whole box."""
    longer = []
    for box in boxes:
        ends = [(dice.randint(least, low) if dice.random() < 0.2 else low,
                 dice.randint(high, greatest) if dice.random() < 0.2 else high)
                for (low, high), (least, greatest) in zip(box, whole)]
        longer.append(tuple(ends))
    return longer


class Fewer(unittest.TestCase):
    def test_the_same_futures_in_no_more_boxes(self):
        dice = random.Random(80)
        for _ in range(200):
            boxes = as_tuples(random_boxes(dice, dice.randint(1, 3), 4, 8))
            for fewer in (simplified(boxes), all_widened(boxes)):
                self.assertLessEqual(len(fewer), len(boxes))
                self.assertEqual(points_of(fewer), points_of(boxes))
                self.assertEqual(list(fewer), sorted(set(fewer)))

    def test_uncovered_boxes_do_not_overlap(self):
        dice = random.Random(81)
        for _ in range(200):
            box, *others = as_tuples(random_boxes(dice, 3, 4, 6))
            left = uncovered(box, others)
            self.assertEqual(points_of(left), points_of_box(box) - points_of(others))
            self.assertEqual(sum(len(points_of_box(part)) for part in left), len(points_of(left)))

    def test_widened_boxes_cannot_be_made_longer(self):
        dice = random.Random(82)
        for _ in range(100):
            boxes = as_tuples(random_boxes(dice, 3, 4, 6))
            points = points_of(boxes)
            wide = widened(boxes[0], boxes, [(0, 4)] * 3)
            self.assertLessEqual(points_of_box(boxes[0]), points_of_box(wide))
            self.assertLessEqual(points_of_box(wide), points)
            for at, (low, high) in enumerate(wide):
                for longer in ((low - 1, high), (low, high + 1)):
                    self.assertFalse(points_of_box(wide[:at] + (longer,) + wide[at + 1:]) <= points)


class ManyOverlaps(unittest.TestCase):
    def test_small_kinds_by_both_ways(self):
        """The cells do not depend on whether longer boxes are looked for."""
        dice = random.Random(83)
        usual = cells.MOST_BOXES
        try:
            for _ in range(100):
                boxes = as_tuples(random_boxes(dice, 3, 4, 6))
                for most in (0, 3, usual):
                    cells.MOST_BOXES = most
                    self.assertEqual(cells.cells_of(boxes), cells_by_words(points_of(boxes)))
        finally:
            cells.MOST_BOXES = usual

    def test_boxes_of_many_gauges_that_overlap(self):
        dice = random.Random(84)
        whole = [((0, BIG),) * 8, tuple((at * 10 ** 16, BIG + at * 10 ** 17) for at in range(8))]
        kind = Kind(NAMES, whole)
        boxes = [box for one in whole for box in stretched(dice, split_boxes(dice, [one], 120), one)]
        dice.shuffle(boxes)
        self.assertEqual(Kind(NAMES, boxes), kind)

    def test_overlapping_boxes_that_fill_a_box(self):
        dice = random.Random(85)
        whole = ((3, BIG),) * 8
        boxes = stretched(dice, split_boxes(dice, [whole], 150), whole)
        self.assertEqual(Kind(NAMES, boxes).cells, (whole,))


if __name__ == "__main__":
    unittest.main()

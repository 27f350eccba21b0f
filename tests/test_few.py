"""Point 15: at most so many pairs of kinds are wild."""

import random
import unittest
from itertools import combinations
from math import comb

from everyfuture.few import few
from everyfuture.kinds import Kind, both, menu
from tests.brute import BIG, HUGE, cells_by_words, futures_of, random_boxes, told

UNIT = Kind([], [[]])
NAMES = ["a", "b", "c", "d", "e", "f", "g", "h", "i", "j"]


def by_words(most, pairs):
    """Return the set of the futures, as sorted tuples of gauges and values."""
    found = set()
    for many in range(min(most, len(pairs)) + 1):
        for chosen in combinations(range(len(pairs)), many):
            futures = [{}]
            for at, pair in enumerate(pairs):
                kind = pair[1] if at in chosen else pair[0]
                futures = [dict(future, **part) for future in futures for part in futures_of(kind)]
            found |= {tuple(sorted(future.items())) for future in futures}
    return found


class Futures(unittest.TestCase):
    def test_no_pairs(self):
        for most in (0, 1, HUGE):
            self.assertEqual(few(most, []), UNIT)
            self.assertEqual(few(most, ()), UNIT)

    def test_one_pair(self):
        calm, wild = menu("a", [3, 4]), menu("a", [0, 9])
        self.assertEqual(few(0, [(calm, wild)]), calm)
        self.assertEqual(few(1, [(calm, wild)]), calm | wild)
        self.assertEqual(few(7, ((calm, wild),)), calm | wild)

    def test_against_the_words(self):
        dice = random.Random(30)
        for _ in range(60):
            names = dice.sample(NAMES, 4)
            pairs = []
            while names and len(pairs) < 3:
                mine = [names.pop() for _ in range(dice.randint(0, min(2, len(names))))]
                kinds = [Kind(mine, random_boxes(dice, len(mine), 2, 2)) for _ in range(2)]
                pairs.append(tuple(kinds))
            for most in range(len(pairs) + 2):
                kind = few(most, pairs)
                futures = by_words(most, pairs)
                self.assertEqual({tuple(future.items()) for future in futures_of(kind)}, futures)
                points = {tuple(value for _, value in future) for future in futures}
                self.assertEqual(kind.cells, cells_by_words(points))

    def test_ten_pairs(self):
        pairs = [(menu(name, [0, 1, 2]), menu(name, [7])) for name in NAMES]
        for most in range(4):
            sizes = [comb(10, many) * 3 ** (10 - many) for many in range(most + 1)]
            self.assertEqual(few(most, pairs).size(), sum(sizes))
        self.assertEqual(few(10, pairs), both([calm | wild for calm, wild in pairs]))
        self.assertEqual(few(HUGE, pairs), few(10, pairs))
        self.assertIn(dict.fromkeys(NAMES[:3], 7) | dict.fromkeys(NAMES[3:], 1), few(3, pairs))
        self.assertNotIn(dict.fromkeys(NAMES[:4], 7) | dict.fromkeys(NAMES[4:], 1), few(3, pairs))

    def test_ten_pairs_with_great_values(self):
        pairs = [(Kind([name], [[(BIG // 2, BIG)]]), Kind([name], [[(0, BIG)]])) for name in reversed(NAMES)]
        kind = few(2, pairs)
        self.assertEqual(kind.gauges, tuple(NAMES))
        low, high = BIG // 2, BIG // 2 + 1
        self.assertEqual(kind.size(), sum(comb(10, many) * low ** many * high ** (10 - many) for many in range(3)))
        self.assertEqual(few(10, pairs).cells, (((0, BIG),) * 10,))

    def test_gauges_of_pairs_between_one_another(self):
        pairs = [(Kind(["a", "c"], [[(0, 0), (0, 0)]]), Kind(["c", "a"], [[(1, 1), (2, 2)]])),
                 (menu("b", [5]), menu("b", [6]))]
        self.assertEqual(futures_of(few(1, pairs)), [{"a": 0, "b": 5, "c": 0}, {"a": 0, "b": 6, "c": 0},
                                                     {"a": 2, "b": 5, "c": 1}])

    def test_nothing_is_tied(self):
        pairs = [(menu("a", [1]), menu("a", [2]))]
        kind = few(1, pairs)
        pairs.append((menu("b", [1]), menu("b", [2])))
        self.assertEqual((kind.gauges, len(pairs)), (("a",), 2))


class Errors(unittest.TestCase):
    def test_a_negative_number_comes_first(self):
        split = (menu("a", [1]), menu("b", [1]))
        self.assertEqual(told(few, -1, []), ("InvalidAmount", -1))
        self.assertEqual(told(few, -HUGE, [split, split]), ("InvalidAmount", -HUGE))

    def test_other_gauges_come_second(self):
        good, same = (menu("b", [1]), menu("b", [2])), (menu("b", [3]), menu("b", [4]))
        bad = (Kind(["a", "d"], [[(0, 0)] * 2]), Kind(["a", "c"], [[(0, 0)] * 2]))
        worse = (menu("a", [1]), UNIT)
        self.assertEqual(told(few, 0, [good, bad, worse]), ("OtherGauges", "c"))
        self.assertEqual(told(few, 0, [good, same, bad, worse]), ("OtherGauges", "c"))
        self.assertEqual(told(few, 3, (worse, bad)), ("OtherGauges", "a"))

    def test_shared_gauges_come_last(self):
        first = (Kind(["b", "e"], [[(0, 0)] * 2]),) * 2
        second = (Kind(["c", "d"], [[(0, 0)] * 2]),) * 2
        third = (Kind(["e", "d", "f"], [[(0, 0)] * 3]),) * 2
        self.assertEqual(told(few, 0, [first, second, third, first]), ("SharedGauge", "d"))
        self.assertEqual(told(few, 5, [third, first]), ("SharedGauge", "e"))


if __name__ == "__main__":
    unittest.main()

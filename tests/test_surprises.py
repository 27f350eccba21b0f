"""Points 63 and 64: surprises."""

import random
import unittest

from everyfuture.few import few
from everyfuture.houses import House
from everyfuture.kinds import Kind, menu, single
from everyfuture.losses import loss
from everyfuture.orders import Orders
from everyfuture.plans import Plans
from everyfuture.promises import Promises
from everyfuture.surprises import merged_losses, most_surprises, surprise_losses
from everyfuture.works import Works
from tests.brute import BIG, HUGE, told
from tests.houses import leaves_of, loss_by_words, marked, open_house, random_decision, random_part

PLANS = Plans(("one", ["a", "b", "c"]))
WORKS = Works([[("h", 1)], [(2, 2)]])
EMPTY = Kind([], [[]])


def random_pair(dice, gauges):
    """Return a pair (calm, wild) of small kinds with these gauges."""
    def kind():
        boxes = [[(low, low + dice.choice((0, 0, 1))) for low in [dice.randint(1, 4) for _ in gauges]]
                 for _ in range(dice.choice((1, 1, 2)))]
        return Kind(gauges, boxes)
    return kind(), kind()


def random_pairs(dice, groups):
    """Return pairs of which each has gauges of one group alone; together they have all gauges."""
    pairs = []
    for gauges in groups:
        left = list(gauges)
        dice.shuffle(left)
        while left:
            many = dice.randint(1, len(left))
            pairs.append(random_pair(dice, left[:many]))
            left = left[many:]
    if dice.random() < 0.3:
        pairs.append((EMPTY, EMPTY))
    dice.shuffle(pairs)
    return pairs


def losses_by_words(department, decision, pairs):
    return [loss_by_words(department, decision, few(k, pairs)) for k in range(len(pairs) + 1)]


class SurpriseLosses(unittest.TestCase):
    def test_departments_against_the_losses_on_few(self):
        dice = random.Random(240)
        done = 0
        while done < 80:
            part = random_part(dice, "")
            if part.is_finished():
                continue
            done += 1
            pairs = random_pairs(dice, [[*part.gauges, "zz"]])
            decision = random_decision(dice, part)
            found = surprise_losses(part, decision, pairs)
            self.assertEqual(found, losses_by_words(part, decision, pairs))
            self.assertEqual((type(found), found), (list, sorted(found)))
            self.assertEqual(found, surprise_losses(part, decision, tuple(pairs)))

    def test_houses_against_the_losses_on_few(self):
        dice = random.Random(241)
        for _ in range(80):
            house = open_house(dice)
            pairs = random_pairs(dice, [house.gauges])
            decision = random_decision(dice, house)
            found = surprise_losses(house, decision, pairs)
            self.assertEqual(found, losses_by_words(house, decision, pairs))
            self.assertEqual(found, sorted(found))

    def test_no_pairs(self):
        self.assertEqual(surprise_losses(Plans(("one", [5, 3])), 0, []), [2])
        self.assertEqual(surprise_losses(House([Plans(("one", [5, 3]))]), [0], ()), [2])
        self.assertEqual(surprise_losses(Plans(("one", [5, 3])), 0, [(EMPTY, EMPTY)] * 3), [2, 2, 2, 2])
        self.assertEqual(told(surprise_losses, PLANS, 0, []), ("MissingGauge", "a"))

    def test_gauges_of_no_department(self):
        pairs = [(menu("z", [1]), menu("z", [2])), (menu("a", [3]), menu("a", [9])), (menu("b", [5]), menu("b", [1])),
                 (menu("c", [8]), menu("c", [8]))]
        self.assertEqual(surprise_losses(PLANS, 0, pairs), [0, 4, 8, 8, 8])

    def test_errors_in_their_order(self):
        finished = Plans("a")
        other = [(menu("a", [1]), menu("a", [1])), (menu("b", [1]), menu("c", [1]))]
        shared = [(menu("a", [1]), menu("a", [1])), (menu("a", [1]) * menu("d", [2]), menu("a", [1]) * menu("d", [2]))]
        for call in (surprise_losses, most_surprises):
            self.assertEqual(told(call, finished, -1, other), ("NothingOpen",))
            self.assertEqual(told(call, House([]), [], other), ("NothingOpen",))
            for bad in (-1, 3, None, [0]):
                self.assertEqual(told(call, PLANS, bad, other), ("InvalidDecision", bad))
            self.assertEqual(told(call, PLANS, 0, shared + other), ("OtherGauges", "b"))
            self.assertEqual(told(call, PLANS, 0, shared + [(menu("m", [1]), EMPTY)]), ("OtherGauges", "m"))
            self.assertEqual(told(call, PLANS, 0, shared), ("SharedGauge", "a"))
            self.assertEqual(told(call, PLANS, 0, other[:1]), ("MissingGauge", "b"))
            calm, wild = menu("h", [1, 4]), menu("h", [0, 2])
            for pair in ((calm, wild), (wild, calm)):
                self.assertEqual(told(call, WORKS, 1, [pair]), ("OutOfRange", "h"))
            self.assertIsNone(told(call, WORKS, 1, [(calm, calm)]))

    def test_the_first_gauge_of_all_pairs_that_is_out_of_range(self):
        works = Works([[("g", 1), ("h", 1)], [(2, 2)]])
        pairs = [(menu("h", [0]), menu("h", [0])), (menu("g", [2]), menu("g", [0]))]
        self.assertEqual(told(surprise_losses, works, 0, pairs), ("OutOfRange", "g"))
        self.assertEqual(told(merged_losses, House([works]), [0], pairs), ("OutOfRange", "g"))
        self.assertEqual(told(surprise_losses, works, 0, pairs[:1]), ("MissingGauge", "g"))

    def test_great_numbers(self):
        pairs = [(menu("a", [0]), Kind(["a"], [[(5, BIG)]])), (menu("b", [HUGE]), menu("b", [3])),
                 (menu("c", [7]), menu("c", [2]))]
        self.assertEqual(surprise_losses(PLANS, 0, pairs), [0, BIG - 7, BIG - 2, BIG - 2])
        many = [(menu(f"g{at}", [BIG]), menu(f"g{at}", [2 * BIG])) for at in range(10)]
        term = Plans(("one", [("all", [f"g{at}" for at in range(5)]), ("all", [f"g{at}" for at in range(5, 10)])]))
        self.assertEqual(surprise_losses(term, 0, many), [min(k, 5) * BIG for k in range(11)])


class MergedLosses(unittest.TestCase):
    def test_against_the_losses_on_few(self):
        dice = random.Random(242)
        rising = 0
        for _ in range(150):
            house = open_house(dice)
            pairs = random_pairs(dice, [part.gauges for part in house.parts])
            decision = random_decision(dice, house, 0.2)
            found = merged_losses(house, decision, pairs)
            self.assertEqual(found, surprise_losses(house, decision, pairs))
            self.assertEqual(found, losses_by_words(house, decision, pairs))
            self.assertEqual((type(found), len(found)), (list, len(pairs) + 1))
            rising += found[-1] > found[0]
        self.assertGreater(rising, 30)

    def test_entries_that_are_none(self):
        house = House([PLANS, Plans(("one", ["d", 3])), Plans(4)])
        pairs = [(single({"a": 3, "b": 3, "c": 3}), single({"a": 7, "b": 4, "c": 5})), (menu("d", [3]), menu("d", [9]))]
        self.assertEqual(merged_losses(house, [0, 0, None], pairs), [0, 6, 9])
        self.assertEqual(merged_losses(house, [None, 0, None], pairs), [0, 6, 6])
        self.assertEqual(merged_losses(house, [0, None, None], pairs), [0, 3, 3])
        self.assertEqual(merged_losses(house, (None, None, None), pairs), [0, 0, 0])

    def test_pairs_without_gauges_belong_to_the_first_department(self):
        house = House([Plans(4), Plans(("one", ["d", 3]))])
        pairs = [(EMPTY, EMPTY), (menu("d", [3]), menu("d", [9])), (EMPTY, EMPTY)]
        self.assertEqual(merged_losses(house, [None, 0], pairs), [0, 6, 6, 6])
        self.assertEqual(merged_losses(house, [None, 0], pairs), surprise_losses(house, [None, 0], pairs))

    def test_pairs_of_no_department(self):
        house = House([PLANS, House([Plans(("one", ["d", 3])), Plans("e")])])
        pair = (single({"a": 1, "b": 1, "c": 1}), single({"a": 2, "b": 2, "c": 2}))
        inner = (single({"d": 1, "e": 1}), single({"d": 5, "e": 2}))
        self.assertEqual(merged_losses(house, [0, [0, None]], [pair, inner]), [0, 2, 2])
        split = (single({"c": 1, "d": 1}), single({"c": 2, "d": 2}))
        unknown = (menu("z", [1]), menu("z", [2]))
        lone = (single({"a": 1, "b": 1}), single({"a": 2, "b": 2}))
        self.assertEqual(told(merged_losses, house, [0, [0, None]], [lone, split]), ("SplitPair", 1))
        self.assertEqual(told(merged_losses, house, [0, [0, None]], [pair, inner, unknown]), ("SplitPair", 2))
        self.assertEqual(told(merged_losses, house, [0, [0, None]], [unknown, split]), ("SplitPair", 0))
        wide = (single({"a": 1, "z": 1}), single({"a": 2, "z": 2}))
        self.assertEqual(told(merged_losses, house, [0, None], [wide]), ("SplitPair", 0))

    def test_errors_in_their_order(self):
        house = House([PLANS, WORKS])
        unknown = (menu("z", [1]), menu("z", [2]))
        calm, low = menu("h", [1, 4]), menu("h", [0, 2])
        prices = (single({"a": 1, "b": 1, "c": 1}), single({"a": 2, "b": 2, "c": 2}))
        self.assertEqual(told(merged_losses, House([Plans(5)]), 5, [(calm, EMPTY)]), ("NothingOpen",))
        for bad in (None, 0, [0], [0, 0, 0], [3, None], [0, 2]):
            self.assertEqual(told(merged_losses, house, bad, [(calm, EMPTY)]), ("InvalidDecision", bad))
        self.assertEqual(told(merged_losses, house, [0, 0], [unknown, (calm, EMPTY)]), ("OtherGauges", "h"))
        self.assertEqual(told(merged_losses, house, [0, 0], [unknown, unknown]), ("SharedGauge", "z"))
        self.assertEqual(told(merged_losses, house, [0, 0], [(low, low), unknown]), ("SplitPair", 1))
        self.assertEqual(told(merged_losses, house, [0, 0], [(low, low)]), ("MissingGauge", "a"))
        self.assertEqual(told(merged_losses, house, [None, None], [(low, low)]), ("MissingGauge", "a"))
        for pair in ((calm, low), (low, calm)):
            self.assertEqual(told(merged_losses, house, [0, 0], [prices, pair]), ("OutOfRange", "h"))
        self.assertEqual(merged_losses(house, [0, 1], [prices, (calm, calm)]),
                         surprise_losses(house, [0, 1], [prices, (calm, calm)]))

    def test_kinds_that_would_be_too_large_together_are_not_formed(self):
        parts = [marked(Plans(("one", [("all", ["a", "b"]), BIG])), f"g{at}") for at in range(5)]
        steps = [[(at * 10, at * 10 + 1)] * 2 for at in range(40)]
        pairs = [(menu(f"g{at}a", [1]) * menu(f"g{at}b", [2]), Kind([f"g{at}a", f"g{at}b"], steps)) for at in range(5)]
        self.assertEqual(merged_losses(House(parts), [1] * 5, pairs), [5 * (BIG - 3), 5 * BIG - 12, 5 * BIG - 9,
                                                                       5 * BIG - 6, 5 * BIG - 3, 5 * BIG])

    def test_great_numbers(self):
        house = House([Orders([("w", 3, BIG, 0, 1, BIG)], urgent=BIG), Promises([1], [["j"]], fine=3)])
        pairs = [(menu("j", [2]), menu("j", [BIG])), (menu("w", [5]), menu("w", [BIG]))]
        self.assertEqual(len(leaves_of(house)), 2)
        most = BIG * (BIG - 1) // 2
        self.assertEqual(merged_losses(house, [HUGE, 1], pairs), [4 * (HUGE - 5), 4 * (HUGE - 5) + 2 * (most - 1)] + [
            4 * (HUGE - 5) + 2 * (most - 1)])


class MostSurprises(unittest.TestCase):
    PAIRS = [(menu("a", [3]), menu("a", [9])), (menu("b", [5]), menu("b", [1])), (menu("c", [8]), menu("c", [8]))]

    def test_limits_of_all_kinds(self):
        self.assertEqual(surprise_losses(PLANS, 0, self.PAIRS), [0, 4, 8, 8])
        for limit, most in ((0, 0), (1, 0), (3, 0), (4, 1), (7, 1), (8, 3), (9, 3), (HUGE, 3)):
            self.assertEqual(most_surprises(PLANS, 0, self.PAIRS, limit=limit), most)
        self.assertEqual(most_surprises(PLANS, 0, self.PAIRS), 0)
        self.assertEqual(surprise_losses(PLANS, 1, self.PAIRS), [2, 2, 2, 2])
        self.assertIsNone(most_surprises(PLANS, 1, self.PAIRS))
        self.assertIsNone(most_surprises(PLANS, 1, self.PAIRS, limit=1))
        self.assertEqual(most_surprises(PLANS, 1, self.PAIRS, limit=2), 3)
        self.assertEqual(most_surprises(Plans(("one", [5, 3])), 0, [], limit=2), 0)

    def test_against_the_list(self):
        dice = random.Random(243)
        for _ in range(50):
            house = open_house(dice)
            pairs = random_pairs(dice, [house.gauges])
            decision = random_decision(dice, house)
            amounts = losses_by_words(house, decision, pairs)
            for limit in sorted({0, *amounts, max(amounts) + 1, max(0, amounts[0] - 1), max(0, amounts[-1] - 1)}):
                fine = [k for k, amount in enumerate(amounts) if amount <= limit]
                self.assertEqual(most_surprises(house, decision, pairs, limit=limit), fine[-1] if fine else None)
            self.assertEqual(most_surprises(house, decision, pairs), most_surprises(house, decision, pairs, limit=0))

    def test_the_limit_comes_after_the_decision_and_before_the_pairs(self):
        for limit in (-1, -HUGE):
            bad = [(menu("a", [1]), EMPTY)]
            self.assertEqual(told(most_surprises, Plans(3), 5, bad, limit=limit), ("NothingOpen",))
            self.assertEqual(told(most_surprises, PLANS, 5, bad, limit=limit), ("InvalidDecision", 5))
            self.assertEqual(told(most_surprises, PLANS, 0, bad, limit=limit), ("InvalidAmount", limit))
        self.assertEqual(told(most_surprises, PLANS, 0, [(menu("a", [1]), EMPTY)], limit=0), ("OtherGauges", "a"))

    def test_nothing_is_tied(self):
        pairs = list(self.PAIRS)
        found = surprise_losses(PLANS, 0, pairs)
        found.append(7)
        self.assertEqual((surprise_losses(PLANS, 0, pairs), pairs), ([0, 4, 8, 8], self.PAIRS))


if __name__ == "__main__":
    unittest.main()

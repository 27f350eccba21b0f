"""Points 51, 52 and 55: losses of houses."""

import random
import unittest

from everyfuture.houses import House
from everyfuture.kinds import Kind, menu
from everyfuture.losses import is_safe, loss
from everyfuture.orders import Orders
from everyfuture.plans import Plans
from everyfuture.promises import Promises
from everyfuture.works import Works
from tests.brute import BIG, HUGE, ends_by_words, random_boxes, told
from tests.houses import day_regret, kind_of, loss_by_words, open_house, own_futures, random_decision

HOUSE = House([Plans(("one", ["a", "b"])), House([Works([[("h", 1)], [(2, 2)]])])])


def first_end_by_words(house, decision, kind):
    """Return the first end with the greatest regret, of all ends in all directions of the decision."""
    own = kind.onto(house.gauges)
    rows = sorted({tuple(future.values()) for signs in house.directions(decision)
                   for future in ends_by_words(own, signs)})
    futures = [dict(zip(house.gauges, row)) for row in rows]
    regrets = [day_regret(house, decision, future) for future in futures]
    return futures[regrets.index(max(regrets))]


class AgainstAllFutures(unittest.TestCase):
    def cases(self, seed, many):
        dice = random.Random(seed)
        for _ in range(many):
            house = open_house(dice)
            kind = kind_of(dice, house)
            yield dice, house, kind, random_decision(dice, house)

    def test_loss_and_the_future_that_is_told(self):
        safe = 0
        for _, house, kind, decision in self.cases(210, 150):
            found = loss(house, decision, kind)
            amount = loss_by_words(house, decision, kind)
            self.assertEqual(found, (amount, first_end_by_words(house, decision, kind)))
            self.assertEqual((type(found), list(found[1])), (tuple, list(house.gauges)))
            self.assertEqual(found, loss(house, tuple(decision), kind))
            self.assertIs(is_safe(house, decision, kind), amount == 0)
            safe += amount == 0
            none = [None] * len(house.parts)
            self.assertEqual(loss(house, none, kind)[0], 0)
            self.assertIs(is_safe(house, none, kind), True)
        self.assertTrue(15 < safe < 135, safe)

    def test_what_point_55_says(self):
        for dice, house, kind, decision in self.cases(211, 60):
            other = Kind(kind.gauges, [[(low + 1, high + 1) for low, high in box]
                                       for box in random_boxes(dice, len(kind.gauges), 3, 2)])
            first, second = loss(house, decision, kind)[0], loss(house, decision, other)[0]
            self.assertEqual(loss(house, decision, kind | other)[0], max(first, second))
            self.assertLessEqual(loss(house, decision, Kind(kind.gauges, kind.cells[:1]))[0], first)

    def test_kinds_with_the_same_ends(self):
        for _, house, kind, decision in self.cases(212, 40):
            own = kind.onto(house.gauges)
            rows = {tuple(future.values()) for signs in house.directions(decision)
                    for future in ends_by_words(own, signs)}
            corners = Kind(own.gauges, [[(number, number) for number in row] for row in rows])
            self.assertEqual(loss(house, decision, corners), loss(house, decision, own))

    def test_gauges_of_decisions_that_are_none_are_told_at_their_greatest_values(self):
        kind = Kind(["a", "b", "h"], [[(0, 3), (0, 3), (1, 4)]])
        self.assertEqual(loss(HOUSE, [0, None], kind), (3, {"a": 3, "b": 0, "h": 4}))
        self.assertEqual(loss(HOUSE, [0, [None]], kind), (3, {"a": 3, "b": 0, "h": 4}))
        self.assertEqual(loss(HOUSE, [None, None], kind), (0, {"a": 3, "b": 3, "h": 4}))
        # Project 1 has the ratio 1: in the last future it is best by far, in the first one as good as the other one.
        self.assertEqual(loss(HOUSE, [1, [0]], kind), (9, {"a": 0, "b": 3, "h": 4}))
        self.assertEqual(loss(HOUSE, [1, [1]], kind), (3, {"a": 0, "b": 3, "h": 1}))


class Errors(unittest.TestCase):
    def test_errors_in_their_order(self):
        finished = House([Plans("a"), House([])])
        empty, some = Kind([], [[]]), Kind(["a", "b"], [[(0, 1), (0, 1)]])
        low = some * menu("h", [0, 3])
        for call in (loss, is_safe):
            self.assertEqual(told(call, finished, 5, empty), ("NothingOpen",))
            self.assertEqual(told(call, House([]), [], empty), ("NothingOpen",))
            for bad in (0, None, [], [0], [0, 0], [[0], None], [2, None], [0, [2]], [0, [[0]]], [0, None, None]):
                self.assertEqual(told(call, HOUSE, bad, empty), ("InvalidDecision", bad))
            self.assertEqual(told(call, HOUSE, (0, (2,)), empty), ("InvalidDecision", [0, [2]]))
            for decision in ([0, None], [None, None], [None, [1]]):
                self.assertEqual(told(call, HOUSE, decision, empty), ("MissingGauge", "a"))
                self.assertEqual(told(call, HOUSE, decision, menu("a", [1])), ("MissingGauge", "b"))
                self.assertEqual(told(call, HOUSE, decision, some), ("MissingGauge", "h"))
                self.assertEqual(told(call, HOUSE, decision, low), ("OutOfRange", "h"))
            self.assertIsNone(told(call, HOUSE, [0, [0]], some * menu("h", [1, 3])))

    def test_nothing_is_tied(self):
        kind = Kind(["a", "b", "h"], [[(0, 3), (0, 3), (1, 4)]])
        decision = [0, [1]]
        loss(HOUSE, decision, kind)[1].clear()
        self.assertEqual(loss(HOUSE, decision, kind)[1], {"a": 3, "b": 0, "h": 1})
        self.assertEqual(decision, [0, [1]])


class GreatNumbers(unittest.TestCase):
    def test_great_numbers(self):
        house = House([Orders([("w", 3, BIG, 0, 1, BIG)], urgent=BIG), House([Plans(("one", ["a", "b"]))]),
                       Promises([1], [["j"]], fine=3)])
        kind = Kind(["a", "b", "j", "w"], [[(0, BIG), (3, BIG), (2, BIG), (5, BIG)]])
        most = BIG * (BIG - 1) // 2
        amount, future = loss(house, [HUGE, [0], most], kind)
        self.assertEqual(amount, 4 * (HUGE - 5) + BIG - 3 + most - 1)
        self.assertEqual(future, {"a": BIG, "b": 3, "j": 2, "w": 5})
        self.assertEqual(loss(house, [0, [1], 0], kind),
                         ((2 * BIG - 3) * BIG + BIG + 2 * most, {"a": 0, "b": BIG, "j": BIG, "w": BIG}))
        self.assertEqual(len(own_futures(house, menu("a", [1]) * menu("b", [2]) * menu("j", [3]) * menu("w", [0, 4]))),
                         2)


if __name__ == "__main__":
    unittest.main()

"""Points 61 and 62: separate losses, products, advice, least days and settling a house."""

import random
import unittest
from itertools import product

from everyfuture.days import advice, is_product, least_day, separate_losses, settling_house
from everyfuture.houses import House
from everyfuture.kinds import Kind, menu
from everyfuture.losses import least_loss, loss, within
from everyfuture.news import settling
from everyfuture.orders import Orders
from everyfuture.plans import Plans
from everyfuture.promises import Promises
from everyfuture.works import Works
from tests.brute import BIG, HUGE, futures_of, told
from tests.houses import is_row, kind_of, leaves_of, loss_by_words, open_house, random_decision, random_house
from tests.test_losses import stretches_of

ORDERS = Orders([("w", 2, 0, 0, 1, 3)], urgent=9)
PLANS = Plans(("one", ["a", "b"]))
WORKS = Works([[("h", 1)], [(2, 2)]])
HOUSE = House([PLANS, House([WORKS, Plans(7)]), Plans(5), House([]), ORDERS])
EMPTY = Kind([], [[]])


def product_kind(dice, house):
    """Return a kind for the house and one gauge more in which no gauge has to do with another one."""
    joint = menu("zz", [0, 2])
    for gauge in house.gauges:
        joint = joint * menu(gauge, [dice.randint(1, 4) for _ in range(dice.choice((1, 2, 2)))])
    return joint


def is_product_by_words(house, kind):
    """Return True if the futures are those that combine the futures of the parts in every way."""
    rows = [sorted({tuple(sorted((gauge, future[gauge]) for gauge in part.gauges)) for future in futures_of(kind)})
            for part in house.parts]
    combined = {tuple(sorted(sum(row, ()))) for row in product(*rows)}
    return combined == {tuple((gauge, future[gauge]) for gauge in house.gauges) for future in futures_of(kind)}


def is_product_throughout(house, kind):
    return is_product_by_words(house, kind) and all(is_product_throughout(part, kind) for part in house.parts
                                                    if isinstance(part, House))


def amounts_of(leaf, kind):
    """Return a dict with the losses of enough decisions of an unfinished department that is no house."""
    own = futures_of(kind.onto(leaf.gauges))
    if not is_row(leaf):
        return {decision: loss_by_words(leaf, decision, kind) for decision in range(30) if leaf.allows(decision)}
    curves = [leaf.curve(future) for future in own]
    # The decision behind the greatest best one is safe in no future.
    top = max(curve.lowest()[2] for curve in curves) + 2
    return {x: max(curve(x) - curve.lowest()[0] for curve in curves) for x in range(top)}


def day_by_words(house, entry_of):
    """Return the nested list of what a function says of the unfinished departments that are no houses."""
    return [None if part.is_finished() else day_by_words(part, entry_of) if isinstance(part, House)
            else entry_of(part) for part in house.parts]


def safe_decisions(leaf, kind):
    amounts = amounts_of(leaf, kind)
    return stretches_of([decision for decision in amounts if amounts[decision] == 0])


def least_decision(leaf, kind):
    amounts = amounts_of(leaf, kind)
    return min(amounts, key=lambda decision: (amounts[decision], decision))


def settling_by_words(house, kind, gauge, most):
    """Return the list of point 62, or the tuple of the error, from trying all ranges."""
    values = sorted({future[gauge] for future in futures_of(kind)})
    leaves = [leaf for leaf in leaves_of(house) if not leaf.is_finished()]
    rows, at = [], 0
    while at < len(values) and len(rows) < most:
        low = values[at]
        settled = [high for high in values[at:]
                   if all(safe_decisions(leaf, kind.cut(gauge, low=low, high=high)) for leaf in leaves)]
        if not settled:
            return ("NotSettled", low)
        cut = kind.cut(gauge, low=low, high=settled[-1])
        rows.append((low, settled[-1], day_by_words(house, lambda leaf, cut=cut: safe_decisions(leaf, cut)[0][0])))
        at = values.index(settled[-1]) + 1
    return rows


class SeparateLosses(unittest.TestCase):
    def test_against_the_losses_of_the_entries(self):
        dice = random.Random(230)
        equal = less = 0
        for at in range(800):
            house = open_house(dice)
            kind = product_kind(dice, house) if at % 8 == 0 else kind_of(dice, house)
            decision = random_decision(dice, house, 0.1)
            found = separate_losses(house, decision, kind)
            self.assertEqual(found, [None if entry is None else loss_by_words(part, entry, kind)
                                     for part, entry in zip(house.parts, decision)])
            total, joint = sum(amount for amount in found if amount is not None), loss(house, decision, kind)[0]
            self.assertGreaterEqual(total, joint)
            self.assertIs(joint == 0, total == 0)
            if is_product(house, kind):
                self.assertEqual(total, joint)
            equal += total == joint
            less += joint < total
        self.assertGreater(min(equal, less), 8)

    def test_none_and_lists_of_nones(self):
        kind = Kind(["a", "b", "h", "w"], [[(0, 3), (1, 2), (1, 5), (2, 4)]])
        self.assertEqual(separate_losses(HOUSE, [0, [0, None], None, None, 3], kind), [2, 8, None, None, 10])
        self.assertEqual(separate_losses(HOUSE, [1, [None, None], None, None, None], kind), [2, 0, None, None, None])
        self.assertEqual(separate_losses(HOUSE, [None] * 5, kind), [None] * 5)

    def test_errors_in_their_order(self):
        self.assertEqual(told(separate_losses, House([Plans(5)]), 7, EMPTY), ("NothingOpen",))
        self.assertEqual(told(separate_losses, House([]), [], EMPTY), ("NothingOpen",))
        for bad in ([0], [0, [1], None, None, 3], [0, None, 0, None, 3], None, 5):
            self.assertEqual(told(separate_losses, HOUSE, bad, EMPTY), ("InvalidDecision", bad))
        nones = (None,) * 5
        self.assertEqual(told(separate_losses, HOUSE, nones, EMPTY), ("MissingGauge", "a"))
        low = Kind(["a", "b", "h", "w"], [[(0, 1)] * 4])
        self.assertEqual(told(separate_losses, HOUSE, nones, low), ("OutOfRange", "h"))
        self.assertEqual(told(separate_losses, HOUSE, nones, low.onto(["a", "b", "h"])), ("MissingGauge", "w"))


class Products(unittest.TestCase):
    def test_against_all_futures(self):
        dice = random.Random(231)
        found = [0, 0]
        for at in range(300):
            house = random_house(dice)
            kind = product_kind(dice, house) if at % 5 == 0 else kind_of(dice, house)
            answer = is_product(house, kind)
            self.assertIs(answer, is_product_by_words(house, kind))
            found[answer] += 1
        self.assertGreater(min(found), 20)

    def test_plain_products(self):
        house = House([PLANS, ORDERS])
        slope = Kind(["a", "b", "w"], [[(0, 1), (0, 1), (5, 6)], [(2, 3), (3, 3), (5, 6)]])
        self.assertIs(is_product(house, slope), True)
        self.assertIs(is_product(house, slope | Kind(["a", "b", "w"], [[(0, 0), (0, 0), (7, 7)]])), False)
        self.assertIs(is_product(house, slope * menu("z", [1, 5])), True)
        tied = Kind(["a", "b", "w", "z"], [[(0, 0), (0, 0), (1, 1), (0, 0)], [(0, 0), (0, 0), (2, 2), (1, 1)]])
        self.assertIs(is_product(house, tied), True)
        self.assertIs(is_product(House([]), menu("z", [1, 5])), True)
        self.assertIs(is_product(House([House([]), Plans(4)]), EMPTY), True)
        self.assertIs(is_product(House([Plans("a")]), menu("a", [1, 5])), True)
        # Only the gauges of the departments of this house are kept apart, not those within a house within it.
        self.assertIs(is_product(House([House([Plans("a"), Plans("b")])]),
                                 Kind(["a", "b"], [[(0, 0), (1, 1)], [(1, 1), (0, 0)]])), True)

    def test_great_numbers(self):
        wide = Kind(["a", "b"], [[(0, BIG), (3, HUGE)]])
        house = House([Plans("a"), Plans("b")])
        self.assertIs(is_product(house, wide), True)
        self.assertIs(is_product(house, wide - Kind(["a", "b"], [[(7, 7), (HUGE, HUGE)]])), False)
        many = House([Plans("a"), Plans("b"), Plans("c"), Plans("d")])
        # The product would have far more cells than the kind.
        steps = [[(at * 10, at * 10 + 1)] * 4 for at in range(40)]
        self.assertIs(is_product(many, Kind(["a", "b", "c", "d"], steps)), False)


class Advice(unittest.TestCase):
    def test_against_all_futures(self):
        dice = random.Random(232)
        for _ in range(100):
            house = random_house(dice)
            kind = kind_of(dice, house, most=20)
            found = advice(house, kind)
            self.assertIs(type(found), list)
            self.assertEqual(found, day_by_words(house, lambda leaf, kind=kind: safe_decisions(leaf, kind)))
            self.assertEqual(found, day_by_words(house, lambda leaf, kind=kind: within(leaf, kind)))

    def test_finished_departments(self):
        kind = Kind(["a", "b", "h", "w"], [[(0, 3), (3, 9), (1, 5), (2, 4)]])
        self.assertEqual(advice(HOUSE, kind), [[(0, 0)], [[(1, 1)], None], None, None, []])
        self.assertEqual(advice(HOUSE.after([0, [None, None], None, None, 3]), kind),
                         [None, [[(1, 1)], None], None, None, None])
        self.assertEqual(advice(House([]), kind), [])
        self.assertEqual(advice(House([Plans(3), House([Plans(3)])]), kind), [None, None])
        done = HOUSE.after([0, [0, None], None, None, 3]).after([None, [1, None], None, None, None])
        self.assertEqual(advice(done, kind), [None] * 5)

    def test_nothing_is_tied(self):
        kind = Kind(["a", "b", "h", "w"], [[(0, 3), (3, 9), (1, 5), (2, 4)]])
        found = advice(HOUSE, kind)
        found[1].clear()
        found[0].append((5, 5))
        self.assertEqual(advice(HOUSE, kind), [[(0, 0)], [[(1, 1)], None], None, None, []])


class LeastDays(unittest.TestCase):
    def test_against_all_futures(self):
        dice = random.Random(233)
        for _ in range(100):
            house = random_house(dice)
            kind = kind_of(dice, house, most=20)
            found = least_day(house, kind)
            self.assertEqual((type(found), type(found[1])), (tuple, list))
            day = day_by_words(house, lambda leaf, kind=kind: least_decision(leaf, kind))
            leaves = [leaf for leaf in leaves_of(house) if not leaf.is_finished()]
            self.assertEqual(found, (sum(min(amounts_of(leaf, kind).values()) for leaf in leaves), day))
            if not house.is_finished():
                self.assertLessEqual(loss(house, day, kind)[0], found[0])

    def full_decisions(self, house, kind):
        """Return the decisions with an entry for each unfinished department, also within its houses."""
        rows = []
        for part in house.parts:
            if part.is_finished():
                rows.append([None])
            elif isinstance(part, House):
                rows.append(self.full_decisions(part, kind))
            else:
                rows.append(list(amounts_of(part, kind))[:12])
        return [list(row) for row in product(*rows)]

    def test_no_day_is_better_on_products(self):
        dice = random.Random(234)
        looked = 0
        while looked < 25:
            house = open_house(dice, most=3)
            kind = product_kind(dice, house)
            decisions = self.full_decisions(house, kind)
            if len(decisions) > 150:
                continue
            looked += 1
            self.assertTrue(is_product_throughout(house, kind))
            amount, day = least_day(house, kind)
            self.assertEqual(loss(house, day, kind)[0], amount)
            for decision in decisions:
                self.assertLessEqual(amount, loss(house, decision, kind)[0])

    def test_a_smaller_loss_without_a_product(self):
        house = House([Plans(("one", ["a", 2])), Plans(("one", ["b", 2]))])
        kind = Kind(["a", "b"], [[(0, 0), (4, 4)], [(4, 4), (0, 0)]])
        self.assertEqual(least_day(house, kind), (4, [0, 0]))
        self.assertEqual(loss(house, [0, 0], kind), (2, {"a": 0, "b": 4}))

    def test_finished_departments(self):
        kind = Kind(["a", "b", "h", "w"], [[(0, 3), (1, 2), (1, 5), (2, 4)]])
        self.assertEqual(least_day(HOUSE, kind), (2 + 0 + least_loss(ORDERS, kind)[0], [0, [1, None], None, None, 4]))
        self.assertEqual(least_day(House([]), kind), (0, []))
        self.assertEqual(least_day(House([Plans(3), House([Plans(3)])]), kind), (0, [None, None]))
        self.assertEqual(least_day(HOUSE.after([0, [None, None], None, None, 3]), kind),
                         (0, [None, [1, None], None, None, None]))

    def test_great_numbers(self):
        house = House([Promises([1], [["j"]], fine=3), House([Plans(("one", [HUGE, "a"]))])])
        kind = Kind(["a", "j"], [[(0, BIG), (BIG, BIG)]])
        self.assertEqual(least_day(house, kind), (0, [BIG * (BIG - 1) // 2, [1]]))
        self.assertEqual(advice(house, kind), [[(BIG * (BIG - 1) // 2,) * 2], [[(1, 1)]]])
        self.assertEqual(separate_losses(house, [0, [0]], kind), [BIG * (BIG - 1), HUGE])


class SettlingHouses(unittest.TestCase):
    def found(self, house, kind, gauge, **named):
        error = told(settling_house, house, kind, gauge, **named)
        return settling_house(house, kind, gauge, **named) if error is None else error

    def test_against_all_ranges(self):
        dice = random.Random(235)
        many = errors = 0
        for at in range(240):
            house = random_house(dice, most=3)
            kind = product_kind(dice, house) if at % 3 == 0 else kind_of(dice, house, most=14)
            gauge = dice.choice(kind.gauges)
            for most in (1, 2, 3, 20):
                found = self.found(house, kind, gauge, most=most)
                self.assertEqual(found, settling_by_words(house, kind, gauge, most))
            self.assertEqual(self.found(house, kind, gauge), found)
            many += len(found) > 1 and isinstance(found, list)
            errors += isinstance(found, tuple)
        self.assertGreater(min(many, errors), 10)

    def test_the_same_as_settling_for_one_department(self):
        kind = menu("a", [1, 2, 5, 9, 10, 30]) * menu("b", [7])
        self.assertEqual(settling_house(House([PLANS]), kind, "a"),
                         [(low, high, [decision]) for low, high, decision in settling(PLANS, kind, "a")])
        house = House([Plans(5), House([PLANS, Plans(5)]), House([Plans(5)])])
        self.assertEqual(settling_house(house, kind, "a"),
                         [(1, 5, [None, [0, None], None]), (9, 30, [None, [1, None], None])])

    def test_finished_houses(self):
        kind = Kind(["a"], [[(3, BIG)], [(HUGE, HUGE)]])
        self.assertEqual(settling_house(House([]), kind, "a"), [(3, HUGE, [])])
        self.assertEqual(settling_house(House([Plans("a"), House([Plans(3)])]), kind, "a", most=1),
                         [(3, HUGE, [None, None])])

    def test_most_and_not_settled(self):
        kind = Kind(["a", "b"], [[(1, 2), (5, 6)], [(8, 8), (3, 4)], [(10, 10), (9, 12)], [(12, 12), (0, 1)]])
        house = House([Plans(9), PLANS])
        self.assertEqual(settling_house(house, kind, "a", most=2), [(1, 2, [None, 0]), (8, 8, [None, 1])])
        for most in (3, 20, HUGE):
            self.assertEqual(told(settling_house, house, kind, "a", most=most), ("NotSettled", 10))

    def test_twenty_ranges_if_nothing_else_is_said(self):
        orders = Orders([("w", 0, 0, 0, 1, 2)])
        rows = settling_house(House([orders]), Kind(["w"], [[(4, BIG)]]), "w")
        self.assertEqual(rows, [(at, at, [at]) for at in range(4, 24)])

    def test_great_numbers(self):
        house = House([PLANS, House([Plans(("one", ["c", 2 * BIG // 3]))])])
        kind = Kind(["a", "b", "c"], [[(0, BIG), (BIG // 3, BIG // 3), (0, 0)]])
        self.assertEqual(settling_house(house, kind, "a"), [(0, BIG // 3, [0, [0]]), (BIG // 3 + 1, BIG, [1, [0]])])
        far = Kind(["a", "b", "c"], [[(5, 5), (6, 6), (0, HUGE)]])
        self.assertEqual(settling_house(house, far, "c"),
                         [(0, 2 * BIG // 3, [0, [0]]), (2 * BIG // 3 + 1, HUGE, [0, [1]])])

    def test_nothing_is_tied(self):
        kind = menu("a", [1, 9]) * menu("b", [7])
        house = House([House([PLANS])])
        settling_house(house, kind, "a")[0][2][0].append(3)
        self.assertEqual(settling_house(house, kind, "a"), [(1, 1, [[0]]), (9, 9, [[1]])])


class Errors(unittest.TestCase):
    def test_errors_in_their_order(self):
        low = Kind(["a", "b", "h", "w"], [[(0, 1)] * 4])
        for call in (is_product, advice, least_day):
            self.assertEqual(told(call, HOUSE, EMPTY), ("MissingGauge", "a"))
            self.assertEqual(told(call, HOUSE, menu("a", [1])), ("MissingGauge", "b"))
            self.assertEqual(told(call, HOUSE, low.onto(["a", "b", "h"])), ("MissingGauge", "w"))
            self.assertEqual(told(call, HOUSE, low), ("OutOfRange", "h"))
            finished = House([WORKS.after(0).after(1), Plans("a")])
            self.assertEqual(told(call, finished, EMPTY), ("MissingGauge", "a"))
            self.assertEqual(told(call, finished, low), ("OutOfRange", "h"))
        for gauge in ("z", "", "No name"):
            self.assertEqual(told(settling_house, HOUSE, low, gauge, most=0), ("MissingGauge", gauge))
        for most in (0, -1, -HUGE):
            self.assertEqual(told(settling_house, HOUSE, low, "a", most=most), ("InvalidAmount", most))
            self.assertEqual(told(settling_house, House([]), menu("a", [1]), "a", most=most), ("InvalidAmount", most))
        self.assertEqual(told(settling_house, HOUSE, menu("a", [1]), "a"), ("MissingGauge", "b"))
        self.assertEqual(told(settling_house, HOUSE, low, "a"), ("OutOfRange", "h"))
        unsettled = Kind(["a", "b", "h", "w"], [[(1, 1), (0, 2), (0, 1), (1, 1)]])
        self.assertEqual(told(settling_house, HOUSE, unsettled, "a"), ("OutOfRange", "h"))
        self.assertEqual(told(settling_house, HOUSE, unsettled.cut("h", low=1), "a"), ("NotSettled", 1))


if __name__ == "__main__":
    unittest.main()

"""Points 56 to 59: news about the value of a gauge."""

import random
import unittest

from everyfuture.kinds import Kind, menu
from everyfuture.losses import least_loss, loss, parting, within
from everyfuture.news import best_question, safe_from, safe_up_to, settling
from everyfuture.orders import Orders
from everyfuture.plans import Plans
from everyfuture.promises import Promises
from everyfuture.works import Works
from tests.brute import BIG, HUGE, futures_of, told
from tests.houses import is_row
from tests.test_losses import random_department
from tests.test_orders import random_orders
from tests.test_plans import random_plans
from tests.test_promises import random_promises
from tests.test_works import random_works

PLANS = Plans(("one", ["a", "b"]))
EMPTY = Kind([], [[]])


class Model:
    """All regrets of a department in the futures of a small kind, ordered by the values of one gauge."""

    def __init__(self, department, kind, gauge):
        self.values = sorted({future[gauge] for future in futures_of(kind)})
        self.regrets = {value: [] for value in self.values}
        futures = futures_of(kind)
        # No best decision is greater than this, so no least good one on any part of the kind is either.
        top = max(department.curve(future).lowest()[1] for future in futures) + 1 if is_row(department) else 30
        self.decisions = [decision for decision in range(top) if department.allows(decision)]
        for future in futures:
            self.regrets[future[gauge]].append(self.row_of(department, future))

    def row_of(self, department, future):
        if not is_row(department):
            return [department.regret(decision, future) for decision in self.decisions]
        curve = department.curve(future)
        return [curve(decision) - curve.lowest()[0] for decision in self.decisions]

    def losses(self, low, high):
        """Return the losses of the decisions on the futures with values from low to high."""
        rows = [row for value in self.values if low <= value <= high for row in self.regrets[value]]
        return [max(column) for column in zip(*rows)]

    def least_good(self, low, high, limit):
        """Return the least decision whose loss is at most the limit, or None."""
        good = [decision for decision, amount in zip(self.decisions, self.losses(low, high)) if amount <= limit]
        return good[0] if good else None

    def least_loss(self, low, high):
        return min(self.losses(low, high))

    def settling(self, limit, most):
        """Return the list of point 57, or the tuple of the error, from trying all ranges."""
        rows, at = [], 0
        while at < len(self.values) and len(rows) < most:
            low = self.values[at]
            settled = [high for high in self.values[at:] if self.least_good(low, high, limit) is not None]
            if not settled:
                return ("NotSettled", low)
            rows.append((low, settled[-1], self.least_good(low, settled[-1], limit)))
            at = self.values.index(settled[-1]) + 1
        return rows

    def fewest(self, limit):
        """Return the number of the fewest settled ranges that have all values, or None."""
        best = [0] + [None] * len(self.values)
        for end in range(1, len(self.values) + 1):
            for start in range(end):
                if best[start] is not None and (best[end] is None or best[start] + 1 < best[end]):
                    if self.least_good(self.values[start], self.values[end - 1], limit) is not None:
                        best[end] = best[start] + 1
        return best[-1]


def result_of(call, *values, **named):
    """Return what the call returns, or the tuple of its error."""
    error = told(call, *values, **named)
    return call(*values, **named) if error is None else error


class Checks:
    """The checks of one class of departments; `make` returns a random department and a future."""

    def cases(self, seed, many):
        dice = random.Random(seed)
        while many:
            department, kind = random_department(dice, self.make)
            gauge = dice.choice(kind.gauges)
            model = Model(department, kind, gauge)
            # Where some decision is best in all futures there is little to be found out, so few of these will do.
            if model.least_loss(model.values[0], model.values[-1]) or dice.random() < 0.15:
                many -= 1
                yield dice, department, kind, gauge, model

    def limits(self, model):
        first, last = model.values[0], model.values[-1]
        least = model.least_loss(first, last)
        return sorted({0, 1, least // 2, max(0, least - 1), least})

    def test_settling_against_all_ranges(self):
        many = unsettled = 0
        for _, department, kind, gauge, model in self.cases(220, 60):
            for limit in self.limits(model):
                found = result_of(settling, department, kind, gauge, limit=limit)
                self.assertEqual(found, model.settling(limit, 20))
                unsettled += isinstance(found, tuple)
                if isinstance(found, list):
                    many += len(found) > 1
                    self.assertEqual(len(found), model.fewest(limit))
                for most in range(1, 5):
                    self.assertEqual(result_of(settling, department, kind, gauge, limit=limit, most=most),
                                     model.settling(limit, most))
            self.assertEqual(result_of(settling, department, kind, gauge), model.settling(0, 20))
        self.assertGreater(min(many, unsettled), 10)

    def test_what_point_57_says(self):
        for _, department, kind, gauge, model in self.cases(221, 40):
            for limit in self.limits(model):
                rows = result_of(settling, department, kind, gauge, limit=limit)
                if isinstance(rows, tuple):
                    alone = kind.cut(gauge, low=rows[1], high=rows[1])
                    self.assertEqual(within(department, alone, limit=limit), [])
                    continue
                self.assertEqual([row[0] for row in rows[1:]],
                                 [model.values[model.values.index(row[1]) + 1] for row in rows[:-1]])
                self.assertEqual((rows[0][0], rows[-1][1]), (model.values[0], model.values[-1]))
                for low, high, decision in rows:
                    cut = kind.cut(gauge, low=low, high=high)
                    self.assertEqual(within(department, cut, limit=limit)[0][0], decision)
                    self.assertIsNone(parting(department, cut, limit=limit))
                for (low, _, _), (following, _, _) in zip(rows, rows[1:]):
                    longer = kind.cut(gauge, low=low, high=following)
                    self.assertIsNotNone(parting(department, longer, limit=limit))

    def test_each_range_within_a_settled_range_is_settled(self):
        for dice, department, kind, gauge, model in self.cases(222, 30):
            limit = dice.choice(self.limits(model))
            for at, low in enumerate(model.values):
                for end in range(at + 1, len(model.values)):
                    if model.least_good(low, model.values[end], limit) is not None:
                        longest = kind.cut(gauge, low=low, high=model.values[end])
                        for part in (longest.cut(gauge, low=low + 1), longest.cut(gauge, high=model.values[end] - 1)):
                            self.assertNotEqual(within(department, part, limit=limit), [])

    def test_best_question_against_all_questions(self):
        asked = ties = 0
        for _, department, kind, gauge, model in self.cases(223, 90):
            first, last = model.values[0], model.values[-1]
            rows = [(max(model.least_loss(first, c - 1), model.least_loss(c, last)), c) for c in model.values[1:]]
            found = best_question(department, kind, gauge)
            if not rows:
                self.assertIsNone(found)
                continue
            asked += 1
            ties += [amount for amount, _ in rows].count(min(rows)[0]) > 1
            self.assertEqual(found, min(rows)[::-1])
            self.assertIs(type(found), tuple)
        self.assertGreater(asked, 30)
        self.assertGreater(ties, 10)

    def test_the_least_losses_of_the_answers_do_not_turn(self):
        for _, department, kind, gauge, model in self.cases(224, 30):
            below = [least_loss(department, kind.cut(gauge, high=c - 1))[0] for c in model.values[1:]]
            above = [least_loss(department, kind.cut(gauge, low=c))[0] for c in model.values[1:]]
            self.assertEqual((below, above), (sorted(below), sorted(above, reverse=True)))

    def test_safe_from_and_up_to_against_all_values(self):
        found_some = found_none = 0
        for dice, department, kind, gauge, model in self.cases(225, 60):
            first, last = model.values[0], model.values[-1]
            for at, decision in list(enumerate(model.decisions))[:6]:
                limits = {0, dice.randint(0, 5), model.losses(first, first)[at], model.losses(last, last)[at]}
                for limit in sorted(limits):
                    upper = [c for c in model.values if model.losses(c, last)[at] <= limit]
                    lower = [c for c in model.values if model.losses(first, c)[at] <= limit]
                    self.assertEqual(upper, [c for c in model.values if upper and c >= upper[0]])
                    self.assertEqual(lower, [c for c in model.values if lower and c <= lower[-1]])
                    found = (safe_from(department, decision, kind, gauge, limit=limit),
                             safe_up_to(department, decision, kind, gauge, limit=limit))
                    self.assertEqual(found, (upper[0] if upper else None, lower[-1] if lower else None))
                    found_some += found[0] is not None
                    found_none += found[0] is None
                self.assertEqual(safe_from(department, decision, kind, gauge),
                                 safe_from(department, decision, kind, gauge, limit=0))
                self.assertEqual(safe_up_to(department, decision, kind, gauge),
                                 safe_up_to(department, decision, kind, gauge, limit=0))
        self.assertGreater(min(found_some, found_none), 20)

    def test_each_greater_value_is_safe_too(self):
        for _, department, kind, gauge, model in self.cases(226, 20):
            for decision in model.decisions[:4]:
                c = safe_from(department, decision, kind, gauge, limit=2)
                for value in [value for value in model.values if c is not None and value >= c]:
                    self.assertLessEqual(loss(department, decision, kind.cut(gauge, low=value))[0], 2)
                c = safe_up_to(department, decision, kind, gauge, limit=2)
                for value in [value for value in model.values if c is not None and value <= c]:
                    self.assertLessEqual(loss(department, decision, kind.cut(gauge, high=value))[0], 2)

    def test_gauges_that_the_department_does_not_read(self):
        more = 0
        for dice, department, kind, _, _ in self.cases(227, 25):
            model = Model(department, kind, "zz")
            limit = dice.choice(self.limits(model))
            found = result_of(settling, department, kind, "zz", limit=limit)
            self.assertEqual(found, model.settling(limit, 20))
            more += len(found) > 1
        self.assertGreater(more, 0)
        department = self.department
        alike = Kind(department.gauges, [[(1, 2)] * len(department.gauges)]) * menu("u", [2, 3, 7])
        least, stretches = least_loss(department, alike)
        self.assertEqual(settling(department, alike, "u", limit=least), [(2, 7, stretches[0][0])])
        self.assertEqual(best_question(department, alike, "u"), (3, least))
        decision = stretches[0][0]
        self.assertEqual(safe_from(department, decision, alike, "u", limit=least), 2)
        self.assertEqual(safe_up_to(department, decision, alike, "u", limit=least), 7)
        if least:
            self.assertIsNone(safe_from(department, decision, alike, "u", limit=least - 1))
            self.assertIsNone(safe_up_to(department, decision, alike, "u", limit=least - 1))
            self.assertEqual(told(settling, department, alike, "u", limit=least - 1), ("NotSettled", 2))

    def test_errors_in_their_order(self):
        department, finished, gauges = self.department, self.finished, self.department.gauges
        lacking = menu("u", [0, 1])
        partly = Kind([gauges[0], "u"], [[(0, 5), (0, 5)]])
        for gauge in ("nix", "u", gauges[0], "", "No name"):
            self.assertEqual(told(settling, finished, EMPTY, gauge, limit=-1, most=0), ("NothingOpen",))
            self.assertEqual(told(best_question, finished, EMPTY, gauge), ("NothingOpen",))
            for call in (safe_from, safe_up_to):
                self.assertEqual(told(call, finished, -1, EMPTY, gauge, limit=-1), ("NothingOpen",))
                for bad in (-1, None, [0], -HUGE):
                    self.assertEqual(told(call, department, bad, EMPTY, gauge, limit=-1), ("InvalidDecision", bad))
                self.assertEqual(told(call, department, (0, (1,)), EMPTY, gauge), ("InvalidDecision", [0, [1]]))
                self.assertEqual(told(call, department, 0, EMPTY, gauge, limit=-1), ("MissingGauge", gauge))
            self.assertEqual(told(settling, department, EMPTY, gauge, limit=-1, most=0), ("MissingGauge", gauge))
            self.assertEqual(told(best_question, department, EMPTY, gauge), ("MissingGauge", gauge))
        for limit in (-1, -HUGE):
            self.assertEqual(told(settling, department, lacking, "u", limit=limit, most=0), ("InvalidAmount", limit))
            for call in (safe_from, safe_up_to):
                self.assertEqual(told(call, department, 0, lacking, "u", limit=limit), ("InvalidAmount", limit))
        for most in (0, -1, -HUGE):
            self.assertEqual(told(settling, department, lacking, "u", limit=3, most=most), ("InvalidAmount", most))
        for kind, gauge in ((lacking, gauges[0]), (partly, gauges[1])):
            self.assertEqual(told(settling, department, kind, "u"), ("MissingGauge", gauge))
            self.assertEqual(told(best_question, department, kind, "u"), ("MissingGauge", gauge))
            for call in (safe_from, safe_up_to):
                self.assertEqual(told(call, department, 0, kind, "u"), ("MissingGauge", gauge))

    def test_a_gauge_with_one_value(self):
        department = self.department
        kind = Kind(department.gauges, [[(3, 3)] * len(department.gauges)]) * menu("u", [9])
        future = {gauge: 3 for gauge in department.gauges}
        best = department.level(future, 0)[0][0]
        for gauge, value in ((department.gauges[0], 3), ("u", 9)):
            self.assertIsNone(best_question(department, kind, gauge))
            self.assertEqual(settling(department, kind, gauge, most=1), [(value, value, best)])
            for call in (safe_from, safe_up_to):
                self.assertEqual(call(department, best, kind, gauge), value)

    def test_nothing_is_tied(self):
        department = self.department
        kind = Kind(department.gauges, [[(1, 4)] * len(department.gauges)])
        gauge = department.gauges[0]
        first = settling(department, kind, gauge, limit=HUGE)
        self.assertEqual(first, [(1, 4, 0)])
        first.append(5)
        self.assertEqual(settling(department, kind, gauge, limit=HUGE), [(1, 4, 0)])
        self.assertIs(type(first[0]), tuple)


class OrdersNews(Checks, unittest.TestCase):
    make = staticmethod(random_orders)
    department = Orders([("a", 3, 5, 2, 1, 4), (6, "p", 2, 0, 1, 4)], urgent=10)
    finished = department.after(0).after(0)

    def test_great_numbers(self):
        orders = Orders([("w", 0, 0, 0, 1, 2)], urgent=0)
        kind = menu("w", [0, BIG])
        self.assertEqual(settling(orders, kind, "w"), [(0, 0, 0), (BIG, BIG, BIG)])
        wide = Kind(["w"], [[(0, BIG)]])
        # Units that are too many cost 1 each, missing ones 2 each: the order may be 2 * limit less or limit more.
        limit = BIG // 7
        rows = settling(orders, wide, "w", limit=limit)
        length = limit + limit // 2
        lows = [at * (length + 1) for at in range(len(rows))]
        self.assertEqual([row[0] for row in rows], lows)
        self.assertEqual([row[1] for row in rows], [low + length for low in lows[:-1]] + [BIG])
        self.assertEqual([row[2] for row in rows], [max(low, row[1] - limit // 2) for low, row in zip(lows, rows)])
        self.assertEqual(settling(orders, wide, "w", limit=limit, most=2), rows[:2])
        self.assertEqual(settling(orders, wide, "w", most=3), [(0, 0, 0), (1, 1, 1), (2, 2, 2)])
        self.assertEqual(len(settling(orders, wide, "w")), 20)
        c, left = best_question(orders, wide, "w")
        rest = [max(least_loss(orders, wide.cut("w", high=at - 1))[0], least_loss(orders, wide.cut("w", low=at))[0])
                for at in (c - 1, c, c + 1)]
        self.assertTrue(rest[0] > left == rest[1] <= rest[2])
        self.assertEqual((safe_from(orders, BIG, wide, "w"), safe_up_to(orders, 0, wide, "w")), (BIG, 0))
        self.assertIsNone(safe_from(orders, BIG - 5, wide, "w", limit=3))
        self.assertEqual(safe_from(orders, BIG - 1, wide, "w", limit=3), BIG - 4)
        self.assertEqual(safe_up_to(orders, HUGE, wide, "w", limit=HUGE - BIG), None)
        self.assertEqual(safe_up_to(orders, HUGE, wide, "w", limit=HUGE), BIG)


class PlansNews(Checks, unittest.TestCase):
    make = staticmethod(random_plans)
    department = Plans(("one", ["a", "b", ("all", ["c", 2])]))
    finished = department.after(0)

    def test_values_with_gaps(self):
        kind = menu("a", [1, 2, 5, 9, 10, 30]) * menu("b", [7])
        self.assertEqual(settling(PLANS, kind, "a"), [(1, 5, 0), (9, 30, 1)])
        self.assertEqual(settling(PLANS, kind, "a", limit=2), [(1, 9, 0), (10, 30, 1)])
        self.assertEqual(settling(PLANS, kind, "a", limit=3), [(1, 10, 0), (30, 30, 1)])
        self.assertEqual(settling(PLANS, kind, "a", limit=23), [(1, 30, 0)])
        self.assertEqual(settling(PLANS, kind, "b", limit=23), [(7, 7, 0)])
        self.assertEqual(best_question(PLANS, kind, "a"), (9, 0))
        self.assertEqual(safe_from(PLANS, 0, kind, "a"), None)
        self.assertEqual(safe_from(PLANS, 1, kind, "a"), 9)
        self.assertEqual(safe_from(PLANS, 1, kind, "a", limit=2), 5)
        self.assertEqual(safe_up_to(PLANS, 0, kind, "a"), 5)
        self.assertEqual(safe_up_to(PLANS, 0, kind, "a", limit=4), 10)
        self.assertEqual(safe_up_to(PLANS, 0, kind, "a", limit=1), 5)

    def test_not_settled_before_and_after_so_many_ranges(self):
        kind = Kind(["a", "b"], [[(1, 2), (5, 6)], [(8, 8), (3, 4)], [(10, 10), (9, 12)], [(12, 12), (0, 1)]])
        self.assertEqual(settling(PLANS, kind, "a", most=2), [(1, 2, 0), (8, 8, 1)])
        for most in (3, 4, 20, HUGE):
            self.assertEqual(told(settling, PLANS, kind, "a", most=most), ("NotSettled", 10))
        self.assertEqual(told(settling, PLANS, kind.cut("a", low=9), "a", most=1), ("NotSettled", 10))
        self.assertEqual(settling(PLANS, kind, "a", limit=1), [(1, 2, 0), (8, 8, 1), (10, 10, 0), (12, 12, 1)])
        self.assertEqual(settling(PLANS, kind, "a", limit=1, most=4), settling(PLANS, kind, "a", limit=1, most=5))
        self.assertEqual(settling(PLANS, kind, "a", limit=1, most=3), settling(PLANS, kind, "a", limit=1)[:3])

    def test_ties_of_questions(self):
        kind = menu("a", [0, 4, 8, 20]) * menu("b", [6])
        self.assertEqual(best_question(PLANS, kind, "a"), (8, 0))
        # With another price of 0 to 100 no question helps, so the least one is asked.
        wide = menu("a", [0, 4, 8, 20]) * menu("b", [0, 100])
        self.assertEqual(best_question(PLANS, wide, "a"), (4, 20))
        self.assertEqual(best_question(PLANS, wide, "b"), (100, 0))

    def test_great_numbers(self):
        kind = Kind(["a", "b"], [[(0, BIG), (BIG // 3, BIG // 3)]])
        self.assertEqual(settling(PLANS, kind, "a"), [(0, BIG // 3, 0), (BIG // 3 + 1, BIG, 1)])
        self.assertEqual(settling(PLANS, kind, "a", limit=HUGE), [(0, BIG, 0)])
        self.assertEqual(best_question(PLANS, kind, "a"), (BIG // 3, 0))
        self.assertEqual(safe_from(PLANS, 1, kind, "a"), BIG // 3)
        self.assertEqual(safe_up_to(PLANS, 0, kind, "a", limit=5), BIG // 3 + 5)
        far = Kind(["a", "b"], [[(HUGE, 2 * HUGE), (0, 3 * HUGE)]])
        self.assertEqual(told(settling, PLANS, far, "b", limit=1), ("NotSettled", HUGE + 2))
        self.assertEqual(settling(PLANS, far, "b", limit=1, most=1), [(0, HUGE + 1, 1)])


class WorksNews(Checks, unittest.TestCase):
    make = staticmethod(random_works)
    department = Works([[("h", 3)], [(2, "w")], [(1, 1), (1, 1)]])
    finished = Works(department.projects, placed=[0, 1, 2, 2])

    def test_hours_below_1(self):
        kind = Kind(["h", "w"], [[(0, 3), (2, 2)]])
        for call in (lambda **named: settling(self.department, kind, "w", **named),
                     lambda **named: safe_from(self.department, 0, kind, "h", **named),
                     lambda **named: safe_up_to(self.department, 0, kind, "w", **named)):
            self.assertEqual(told(call), ("OutOfRange", "h"))
            self.assertEqual(told(call, limit=-1), ("InvalidAmount", -1))
        self.assertEqual(told(settling, self.department, kind, "w", most=0), ("InvalidAmount", 0))
        self.assertEqual(told(best_question, self.department, kind, "w"), ("OutOfRange", "h"))

    def test_great_numbers(self):
        works = Works([[("h", BIG)], [(BIG, 2)]])
        kind = Kind(["h"], [[(1, BIG ** 2)]])
        self.assertEqual(settling(works, kind, "h"), [(1, BIG ** 2 // 2, 0), (BIG ** 2 // 2 + 1, BIG ** 2, 1)])
        self.assertEqual(best_question(works, kind, "h"), (BIG ** 2 // 2, 0))


class PromisesNews(Checks, unittest.TestCase):
    make = staticmethod(random_promises)
    department = Promises([2, 1], [["a", 1], [1, "b"]], fine=4)
    finished = department.after(0).after(0)

    def test_great_numbers(self):
        promises = Promises([1], [["a"]], fine=2)
        kind = Kind(["a"], [[(0, BIG)]])
        self.assertEqual(settling(promises, kind, "a", most=4), [(0, 1, 0), (2, 2, 1), (3, 3, 3), (4, 4, 6)])
        rows = settling(promises, kind, "a", limit=BIG * BIG // 100, most=60)
        self.assertEqual((rows[0][0], rows[-1][1]), (0, BIG))
        # Both too much and too little cost 1, so a range is settled if its ends are at most 2 * limit apart.
        half = BIG * BIG // 100
        for low, high, decision in rows[:-1]:
            self.assertEqual(decision, max(low * (low - 1) // 2, high * (high - 1) // 2 - half))
            self.assertLessEqual(high * (high - 1) // 2 - low * (low - 1) // 2, 2 * half)
            self.assertGreater((high + 1) * high // 2 - low * (low - 1) // 2, 2 * half)
        self.assertEqual(safe_up_to(promises, 6, kind, "a", limit=6), 5)


if __name__ == "__main__":
    unittest.main()

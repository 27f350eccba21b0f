"""Points 21 to 23 and 51 to 55: losses."""

import random
import unittest

from everyfuture.kinds import Kind, menu, single
from everyfuture.losses import is_safe, least_loss, loss, parting, within
from everyfuture.orders import Orders
from everyfuture.plans import Plans
from everyfuture.promises import Promises
from everyfuture.works import Works
from tests.brute import BIG, HUGE, ends_by_words, futures_of, random_boxes, small_kind, told
from tests.test_orders import random_orders
from tests.test_plans import random_plans
from tests.test_promises import random_promises
from tests.test_works import random_works

# No decision of the small row departments below is worth more than this.
TOP = 24
ORDERS = Orders([("a", 3, 5, 2, 1, 4), (6, "p", 2, 0, 1, 4)], urgent=10)
PLANS = Plans(("one", ["a", "b", ("all", ["c", 2])]))
WORKS = Works([[("h", 3)], [(2, "w")], [(1, 1), (1, 1)]])
PROMISES = Promises([2, 1], [["a", 1], [1, "b"]], fine=4)


def random_department(dice, make):
    """Return a small unfinished department with one to three gauges, and a kind for it with one gauge more."""
    while True:
        department, _ = make(dice)
        while not department.is_finished() and dice.random() < 0.3:
            department = department.after(dice.choice(decisions_of(department)[:4]))
        if not department.is_finished() and 1 <= len(department.gauges) <= 3:
            least = 1 if department.hour_gauges else 0
            return department, small_kind(dice, [*department.gauges, "zz"], 4, 60, least)


def decisions_of(department):
    return [decision for decision in range(TOP) if department.allows(decision)]


def is_row(department):
    return isinstance(department, (Orders, Promises))


def regrets_of(department, kind):
    """Return a dict with the futures of the kind of the department, as tuples, and all regrets in them."""
    own = kind.onto(department.gauges)
    return {tuple(future.values()): {decision: department.regret(decision, future)
                                     for decision in decisions_of(department)} for future in futures_of(own)}


def all_ends(department, decision, kind):
    """Return the ends in all directions of the decision in the order of futures, as tuples."""
    own = kind.onto(department.gauges)
    return sorted({tuple(future.values()) for signs in department.directions(decision)
                   for future in ends_by_words(own, signs)})


def stretches_of(numbers):
    """Return the stretch list of ascending numbers."""
    found = []
    for number in numbers:
        if found and found[-1][1] == number - 1:
            found[-1] = (found[-1][0], number)
        else:
            found.append((number, number))
    return found


class Checks:
    """The checks of one class of departments; `make` returns a random department and a future."""

    def cases(self, seed, many):
        dice = random.Random(seed)
        while many:
            department, kind = random_department(dice, self.make)
            regrets = regrets_of(department, kind)
            amounts = self.losses_by_words(department, regrets)
            # The losses of a row department are convex, so the best decision is seen if it is not the last one.
            if not is_row(department) or min(amounts, key=amounts.get) < TOP - 1:
                many -= 1
                yield department, kind, regrets

    def losses_by_words(self, department, regrets):
        return {decision: max(row[decision] for row in regrets.values()) for decision in decisions_of(department)}

    def test_losses_against_all_futures(self):
        for department, kind, regrets in self.cases(150, 40):
            amounts = self.losses_by_words(department, regrets)
            for decision in decisions_of(department)[::3 if is_row(department) else 1]:
                corners = all_ends(department, decision, kind)
                first = [row for row in corners if regrets[row][decision] == amounts[decision]][0]
                found = loss(department, decision, kind)
                self.assertEqual(found, (amounts[decision], dict(zip(department.gauges, first))))
                self.assertEqual((type(found), list(found[1])), (tuple, list(department.gauges)))
                self.assertIs(is_safe(department, decision, kind), amounts[decision] == 0)

    def test_within_and_least_loss_against_all_futures(self):
        for department, kind, regrets in self.cases(151, 40):
            amounts = self.losses_by_words(department, regrets)
            least = min(amounts.values())
            best = [decision for decision in amounts if amounts[decision] == least]
            found = least_loss(department, kind)
            self.assertEqual((type(found), found[0], self.shown(found[1])), (tuple, least, stretches_of(best)))
            for limit in sorted({0, max(0, least - 1), least, least + 1, least + 4}):
                fine = [decision for decision in amounts if amounts[decision] <= limit]
                self.assertEqual(self.shown(within(department, kind, limit=limit)), stretches_of(fine))
            self.assertEqual(within(department, kind), within(department, kind, limit=0))

    def shown(self, stretches):
        """Return the part of a stretch list that the decisions below TOP show."""
        return [(low, min(high, TOP - 1)) for low, high in stretches if low < TOP]

    def test_parting_against_all_futures(self):
        found_some = found_none = 0
        for department, kind, regrets in self.cases(152, 80):
            amounts = self.losses_by_words(department, regrets)
            least = min(amounts.values())
            for limit in sorted({0, max(0, least - 1), least, least + 1}):
                found = parting(department, kind, limit=limit)
                if least <= limit:
                    found_none += 1
                    self.assertIsNone(found)
                    continue
                found_some += 1
                rows = [tuple(future.values()) for future in found]
                self.assertEqual([list(future) for future in found], [list(department.gauges)] * len(found))
                self.assertTrue(all(any(regrets[row][decision] > limit for row in rows) for decision in amounts))
                self.assertEqual(rows, self.parting_by_words(department, kind, regrets, limit))
            self.assertEqual(parting(department, kind), parting(department, kind, limit=0))
        self.assertGreater(min(found_some, found_none), 10)

    def parting_by_words(self, department, kind, regrets, limit):
        if is_row(department):
            return self.row_parting(department, kind, limit)
        futures = []
        for decision in decisions_of(department):
            corners = all_ends(department, decision, kind)
            greatest = max(regrets[row][decision] for row in corners)
            futures.append([row for row in corners if regrets[row][decision] == greatest][0])
        kept = sorted(set(futures))
        for row in list(kept):
            rest = [other for other in kept if other != row]
            if all(any(regrets[other][decision] > limit for other in rest) for decision in decisions_of(department)):
                kept = rest
        return kept

    def row_parting(self, department, kind, limit):
        corners = all_ends(department, 0, kind)
        stretches = [department.level(dict(zip(department.gauges, row)), limit)[0] for row in corners]
        low, high = max(low for low, _ in stretches), min(high for _, high in stretches)
        found = {corners[[stretch[0] for stretch in stretches].index(low)],
                 corners[[stretch[1] for stretch in stretches].index(high)]}
        self.assertEqual(len(found), 2)
        return sorted(found)

    def test_what_point_55_says(self):
        dice = random.Random(153)
        for department, kind, _ in self.cases(154, 25):
            gauges = kind.gauges
            other = Kind(gauges, [[(low + 1, high + 1) for low, high in box]
                                  for box in random_boxes(dice, len(gauges), 3, 2)])
            for decision in decisions_of(department)[:5]:
                first, second = loss(department, decision, kind)[0], loss(department, decision, other)[0]
                self.assertEqual(loss(department, decision, kind | other)[0], max(first, second))
                part = Kind(gauges, kind.cells[:1])
                self.assertLessEqual(loss(department, decision, part)[0], first)

    def test_kinds_with_the_same_ends(self):
        for department, kind, _ in self.cases(155, 15):
            own = kind.onto(department.gauges)
            for decision in decisions_of(department)[:4]:
                corners = Kind(own.gauges, [[(number, number) for number in row]
                                            for row in all_ends(department, decision, kind)])
                self.assertEqual(loss(department, decision, corners), loss(department, decision, own))

    def test_errors_in_their_order(self):
        department, finished, gauges = self.department, self.finished, self.department.gauges
        empty = Kind([], [[]])
        partly = Kind(gauges[:1], [[(0, 5)]])
        for call in (loss, is_safe):
            self.assertEqual(told(call, finished, -1, empty), ("NothingOpen",))
            for bad in (-1, None, [0], -HUGE):
                self.assertEqual(told(call, department, bad, empty), ("InvalidDecision", bad))
            self.assertEqual(told(call, department, (0, (None,)), empty), ("InvalidDecision", [0, [None]]))
            self.assertEqual(told(call, department, 0, empty), ("MissingGauge", gauges[0]))
            self.assertEqual(told(call, department, 0, partly), ("MissingGauge", gauges[1]))
        for call in (within, parting):
            self.assertEqual(told(call, finished, empty, limit=-1), ("NothingOpen",))
            for limit in (-1, -HUGE):
                self.assertEqual(told(call, department, empty, limit=limit), ("InvalidAmount", limit))
        self.assertEqual(told(least_loss, finished, empty), ("NothingOpen",))
        for call in (within, parting, least_loss):
            self.assertEqual(told(call, department, empty), ("MissingGauge", gauges[0]))
            self.assertEqual(told(call, department, partly), ("MissingGauge", gauges[1]))

    def test_gauges_that_the_department_does_not_read(self):
        department = self.department
        own = Kind(department.gauges, [[(1, 2)] * len(department.gauges), [(2, 4)] * len(department.gauges)])
        more = menu("a0", [0, 5]) * own * menu("zz", [1])
        self.assertEqual(loss(department, 0, more), loss(department, 0, own))
        self.assertEqual(within(department, more, limit=2), within(department, own, limit=2))
        self.assertEqual(least_loss(department, more), least_loss(department, own))
        self.assertEqual(parting(department, more), parting(department, own))

    def test_kinds_of_one_future(self):
        future = {gauge: 2 for gauge in self.department.gauges}
        kind = single(future)
        self.assertEqual(least_loss(self.department, kind), (0, self.department.level(future, 0)))
        self.assertEqual(within(self.department, kind, limit=3), self.department.level(future, 3))
        self.assertIsNone(parting(self.department, kind))
        self.assertEqual(loss(self.department, 0, kind), (self.department.regret(0, future), future))

    def test_nothing_is_tied(self):
        department = self.department
        kind = Kind(department.gauges, [[(1, 9)] * len(department.gauges)])
        for call in (lambda: loss(department, 0, kind)[1], lambda: parting(department, kind)[0]):
            before = dict(call())
            call().clear()
            self.assertEqual(call(), before)
        for call in (lambda: parting(department, kind), lambda: within(department, kind, limit=HUGE),
                     lambda: least_loss(department, kind)[1]):
            before = list(call())
            call().clear()
            self.assertEqual(call(), before)


class OrdersLosses(Checks, unittest.TestCase):
    make = staticmethod(random_orders)
    department, finished = ORDERS, ORDERS.after(0).after(0)

    def test_the_example_of_point_32(self):
        kind = Kind(["a", "p"], [[(4, 4), (1, 1)], [(4, 4), (9, 9)]])
        self.assertEqual(loss(ORDERS, 4, kind), (20, {"a": 4, "p": 9}))
        self.assertEqual(loss(ORDERS, 10, kind)[1], {"a": 4, "p": 1})
        self.assertEqual(parting(ORDERS, kind), [{"a": 4, "p": 1}, {"a": 4, "p": 9}])

    def test_values_below_the_least_ones(self):
        self.assertIsNone(told(loss, ORDERS, 0, Kind(["a", "p"], [[(0, 3), (0, 3)]])))

    def test_great_numbers(self):
        orders = Orders([("w", 3, BIG, 0, 1, BIG)], urgent=BIG)
        kind = menu("w", [5, BIG])
        amount, stretches = least_loss(orders, kind)
        # Too many units cost 4 each, missing ones 2 * BIG - 3 each.
        low = stretches[0][0]
        worst = [max(4 * (x - 5), (2 * BIG - 3) * max(0, BIG - x)) for x in (low - 1, low, low + 1)]
        self.assertEqual((amount, worst[1] < worst[0], worst[1] <= worst[2]), (worst[1], True, True))
        self.assertEqual(within(orders, kind, limit=amount), stretches)
        self.assertEqual(within(orders, kind, limit=amount - 1), [])
        self.assertEqual(parting(orders, kind, limit=amount - 1), [{"w": 5}, {"w": BIG}])
        self.assertIsNone(parting(orders, kind, limit=amount))
        self.assertEqual(loss(orders, HUGE, kind), (4 * (HUGE - 5), {"w": 5}))
        self.assertEqual(within(orders, kind, limit=HUGE)[0][1], (HUGE + 20) // 4)


class PlansLosses(Checks, unittest.TestCase):
    make = staticmethod(random_plans)
    department, finished = PLANS, PLANS.after(0)

    def test_gaps_and_ties(self):
        plans = Plans(("one", ["a", 9, "b", "c"]))
        kind = Kind(["a", "b", "c"], [[(1, 3), (0, 3), (0, 4)]])
        self.assertEqual([loss(plans, at, kind)[0] for at in range(4)], [3, 9, 3, 4])
        self.assertEqual(least_loss(plans, kind), (3, [(0, 0), (2, 2)]))
        self.assertEqual(within(plans, kind, limit=4), [(0, 0), (2, 3)])
        self.assertEqual(loss(plans, 0, kind), (3, {"a": 3, "b": 0, "c": 0}))
        self.assertEqual(parting(plans, kind, limit=2),
                         [{"a": 1, "b": 0, "c": 4}, {"a": 1, "b": 3, "c": 0}, {"a": 3, "b": 0, "c": 0}])

    def test_futures_that_can_be_left_out(self):
        plans = Plans(("one", ["a", "b", "c"]))
        kind = Kind(["a", "b", "c"], [[(9, 9), (0, 0), (7, 7)], [(0, 0), (9, 9), (8, 8)], [(1, 1), (1, 1), (20, 20)]])
        self.assertEqual([loss(plans, at, kind)[1]["a"] for at in range(3)], [9, 0, 1])
        # The future of the third decision is not needed: that decision costs too much in the other two as well.
        self.assertEqual(parting(plans, kind), [{"a": 0, "b": 9, "c": 8}, {"a": 9, "b": 0, "c": 7}])
        self.assertEqual(parting(plans, kind, limit=8),
                         [{"a": 0, "b": 9, "c": 8}, {"a": 1, "b": 1, "c": 20}, {"a": 9, "b": 0, "c": 7}])
        self.assertIsNone(parting(plans, kind, limit=9))

    def test_great_numbers(self):
        kind = Kind(["a", "b", "c"], [[(0, BIG), (3, BIG), (BIG, BIG)]])
        self.assertEqual(loss(PLANS, 0, kind), (BIG - 3, {"a": BIG, "b": 3, "c": BIG}))
        self.assertEqual(least_loss(PLANS, kind), (BIG - 3, [(0, 0)]))
        self.assertEqual(loss(Plans(("one", [HUGE, "a"])), 0, menu("a", [0])), (HUGE, {"a": 0}))


class WorksLosses(Checks, unittest.TestCase):
    make = staticmethod(random_works)
    department, finished = WORKS, Works(WORKS.projects, placed=[0, 1, 2, 2])

    def test_hours_below_1(self):
        low = Kind(["h", "w"], [[(1, 2), (0, 0)], [(0, 3), (2, 2)]])
        for call in (lambda: loss(WORKS, 0, low), lambda: is_safe(WORKS, 2, low), lambda: within(WORKS, low),
                     lambda: least_loss(WORKS, low), lambda: parting(WORKS, low)):
            self.assertEqual(told(call), ("OutOfRange", "h"))
        self.assertEqual(told(within, WORKS, low, limit=-1), ("InvalidAmount", -1))
        self.assertEqual(told(loss, WORKS, 3, low), ("InvalidDecision", 3))

    def test_projects_without_steps(self):
        works = Works([[], [("h", 1)], [], [(2, 1)]])
        kind = menu("h", [1, 3])
        self.assertEqual(least_loss(works, kind), (1, [(1, 1), (3, 3)]))
        self.assertEqual(within(works, kind), [])
        self.assertEqual(parting(works, kind), [{"h": 1}, {"h": 3}])
        self.assertEqual(told(loss, works, 0, kind), ("InvalidDecision", 0))

    def test_great_numbers(self):
        works = Works([[("h", BIG)], [(BIG, "w")]])
        kind = Kind(["h", "w"], [[(1, BIG), (0, BIG)]])
        self.assertEqual(loss(works, 0, kind), (0, {"h": BIG, "w": BIG}))
        self.assertIs(is_safe(works, 0, kind), True)
        self.assertEqual(loss(works, 1, kind), (BIG * BIG, {"h": 1, "w": 0}))


class PromisesLosses(Checks, unittest.TestCase):
    make = staticmethod(random_promises)
    department, finished = PROMISES, PROMISES.after(0).after(0)

    def test_great_numbers(self):
        promises = Promises([1], [["a"]], fine=3)
        kind = menu("a", [2, BIG])
        most = BIG * (BIG - 1) // 2
        # Each unit above the least total costs 1 too much, each one below it 2.
        amount, stretches = least_loss(promises, kind)
        self.assertEqual(loss(promises, most, kind), (most - 1, {"a": 2}))
        self.assertEqual(loss(promises, 0, kind), (2 * most, {"a": BIG}))
        self.assertEqual(amount, min(max(x - 1, 2 * (most - x)) for x in range(2 * most // 3 - 2, 2 * most // 3 + 3)))
        self.assertEqual(within(promises, kind, limit=amount), stretches)
        self.assertEqual(within(promises, kind, limit=amount - 1), [])
        self.assertEqual(parting(promises, kind, limit=amount - 1), [{"a": 2}, {"a": BIG}])


class Ties(unittest.TestCase):
    def test_the_first_end_with_the_greatest_regret_is_told(self):
        plans = Plans(("one", ["a", "b", "c"]))
        kind = Kind(["a", "b", "c"], [[(5, 5), (9, 9), (2, 2)], [(4, 4), (1, 1), (7, 7)], [(4, 4), (3, 3), (1, 1)]])
        self.assertEqual(loss(plans, 0, kind), (3, {"a": 4, "b": 1, "c": 7}))

    def test_the_ends_of_both_directions_are_put_together(self):
        orders = Orders([("w", 1, 0, 0, 1, 1)], urgent=2)
        kind = menu("w", [2, 6])
        # Units that are too many cost 2 each, missing ones 3 - 1 = 2 each: at 4 the two ends have equal regrets.
        self.assertEqual(loss(orders, 4, kind), (4, {"w": 2}))
        self.assertEqual(loss(orders, 5, kind), (6, {"w": 2}))
        self.assertEqual(loss(orders, 3, kind), (6, {"w": 6}))
        self.assertEqual(least_loss(orders, kind), (4, [(4, 4)]))

    def test_departments_without_gauges(self):
        kind = Kind([], [[]])
        plans = Plans(("one", [5, 3, 4]))
        self.assertEqual((loss(plans, 0, kind), least_loss(plans, kind)), ((2, {}), (0, [(1, 1)])))
        self.assertEqual((within(plans, kind, limit=1), parting(plans, kind)), ([(1, 2)], None))
        orders = Orders([(3, 2, 0, 0, 1, 5)], urgent=5)
        self.assertEqual((loss(orders, 5, menu("z", [1])), least_loss(orders, kind)), ((6, {}), (0, [(3, 3)])))


if __name__ == "__main__":
    unittest.main()

"""Points 8, 17 to 24 and 43 to 49: promises."""

import random
import unittest
from itertools import combinations, product

from everyfuture.curves import Curve
from everyfuture.ends import ends
from everyfuture.promises import Promises
from tests.brute import BIG, HUGE, futures_of, small_kind, told
from tests.departments import WRONG_FORMS, DepartmentChecks
from tests.test_waits import served

TABLE = [["b", 2], [0, "a"]]


def all_groups(classes):
    """Return all groups of the classes, as ascending tuples."""
    return [group for many in range(len(classes) + 1) for group in combinations(sorted(classes), many)]


def totals_of(promises, future):
    """Return the least totals of all groups, from a server that works slot by slot."""
    rows = [[future.get(reading, reading) for reading in row] for row in promises.table]
    return {group: served(rows, group)[1] for group in all_groups(range(len(promises.rates)))}


def shortfall_by_words(totals, limits):
    """Return the shortfall of the limits of the first classes, as point 44 says."""
    return max(totals[group] - sum(limits[at] for at in group) for group in all_groups(range(len(limits))))


def short_group(totals, limits):
    """Return the group of point 44 that is contained in all others."""
    greatest = shortfall_by_words(totals, limits)
    tight = [set(group) for group in all_groups(range(len(limits)))
             if totals[group] - sum(limits[at] for at in group) == greatest]
    return sorted(set.intersection(*tight))


def cost_by_words(promises, limits, totals):
    return (sum(rate * limit for rate, limit in zip(promises.rates, limits))
            + promises.fine * shortfall_by_words(totals, limits))


def demand_by_words(promises, group, totals):
    """Return the demand of a group of open classes, as point 47 says."""
    return max(totals[tuple(sorted((*placed, *group)))] - sum(promises.placed[at] for at in placed)
               for placed in all_groups(range(len(promises.placed))))


def dear_by_words(promises, classes):
    return sorted(sorted(classes), key=lambda at: -promises.rates[at])


def random_promises(dice, classes=(1, 2, 2, 3), most=3):
    """Return small promises with all kinds of readings, and a future for them."""
    many = dice.choice(classes)
    names = [f"{letter}{at}" for letter in "ab" for at in range(10)]
    dice.shuffle(names)
    future = {"z": -5}
    table = []
    for _ in range(dice.randint(0, 2)):
        row = [dice.choice((0, 1, 1, dice.randint(0, most))) for _ in range(many)]
        for at in range(many):
            if dice.random() < 0.6:
                name = names.pop()
                future[name] = row[at]
                row[at] = name
        table.append(row)
    rates = [dice.randint(1, 4) for _ in range(many)]
    return Promises(rates, table, fine=max(rates) + dice.choice((0, 0, 1, 3))), future


def placed_at_random(dice, promises):
    while not promises.is_finished() and dice.random() < 0.4:
        promises = promises.after(dice.randint(0, 6))
    return promises


class Creation(unittest.TestCase):
    def test_attributes(self):
        promises = Promises([3, 1], TABLE, fine=3, placed=[7])
        self.assertEqual((promises.rates, promises.table), ((3, 1), (("b", 2), (0, "a"))))
        self.assertEqual((promises.fine, promises.placed, promises.gauges, promises.hour_gauges),
                         (3, (7,), ("a", "b"), ()))
        self.assertEqual((Promises((1,), (), fine=1).table, Promises((1,), ((0,),), fine=1).table), ((), ((0,),)))

    def test_the_first_wrong_rate(self):
        for rate in (0, -1, -HUGE):
            self.assertEqual(told(Promises, [1, rate, 0], TABLE, fine=9), ("InvalidRate", 1))
        self.assertIsNone(told(Promises, [1, HUGE], TABLE, fine=HUGE))

    def test_the_first_wrong_row(self):
        for bad in ([], [1], [1, 2, 3], [-1, 0], [0, -HUGE], ["A", 0], [0, ""], [0, "abcdefghi"], ["a\n", 0], ["1", 0]):
            self.assertEqual(told(Promises, [1, 1], [["a", 0], bad, []], fine=1), ("InvalidSlot", 1), bad)
            self.assertEqual(told(Promises, [1, 1], [tuple(bad)], fine=1), ("InvalidSlot", 0), bad)
        self.assertIsNone(told(Promises, [1, 1], [[0, HUGE], ["a", "b"]], fine=1))

    def test_the_first_gauge_that_is_read_again(self):
        self.assertEqual(told(Promises, [1, 1], [["a", "b"], ["c", "b"], ["a", "c"]], fine=1), ("SharedGauge", "b"))
        self.assertEqual(told(Promises, [1, 1], [["b", "b"], ["a", "a"]], fine=1), ("SharedGauge", "b"))

    def test_fines(self):
        for fine in (3, 0, -HUGE):
            self.assertEqual(told(Promises, [2, 4], TABLE, fine=fine), ("InvalidAmount", fine))
        self.assertEqual(Promises([2, 4], TABLE, fine=4).fine, 4)

    def test_the_order_of_errors(self):
        shared = [["a", "a"]]
        self.assertEqual(told(Promises, [5, 0], [[]] + shared, fine=-1, placed=[-1]), ("InvalidRate", 1))
        self.assertEqual(told(Promises, [5, 1], shared + [[]], fine=-1, placed=[-1]), ("InvalidSlot", 1))
        self.assertEqual(told(Promises, [5, 1], shared, fine=-1, placed=[-1]), ("SharedGauge", "a"))
        self.assertEqual(told(Promises, [5, 1], TABLE, fine=-1, placed=[-1]), ("InvalidAmount", -1))
        self.assertEqual(told(Promises, [5, 1], TABLE, fine=5, placed=[-1]), ("InvalidPlan", 0))

    def test_placed_decisions_that_cannot_be_placed(self):
        for bad in WRONG_FORMS:
            self.assertEqual(told(Promises, [1, 1], TABLE, fine=1, placed=[3, bad]), ("InvalidPlan", 1))
            self.assertEqual(told(Promises, [1, 1], TABLE, fine=1, placed=(bad, bad)), ("InvalidPlan", 0))
        self.assertEqual(told(Promises, [1, 1], TABLE, fine=1, placed=[0, 1, 2]), ("InvalidPlan", 2))
        self.assertEqual(Promises([1, 1], TABLE, fine=1, placed=(0, HUGE)).placed, (0, HUGE))

    def test_nothing_is_tied(self):
        rates, row, placed = [2], ["a"], [4]
        table = [row]
        promises = Promises(rates, table, fine=3, placed=placed)
        rates[0] = 0
        row[0] = "b"
        table.append([-1])
        placed.append(5)
        self.assertEqual((promises.rates, promises.table, promises.placed), ((2,), (("a",),), (4,)))


class Placing(unittest.TestCase, DepartmentChecks):
    def test_decisions_of_the_right_form(self):
        promises = Promises([1], [], fine=1)
        for decision in (0, 1, HUGE):
            self.assertIs(promises.allows(decision), True)
            self.assertIs(promises.after(3).allows(decision), False)
        for decision in (*WRONG_FORMS, (), (0,)):
            self.assertIs(promises.allows(decision), False)

    def test_placing_one_after_another(self):
        promises = Promises([2, 3], TABLE, fine=4)
        first = promises.after(5)
        second = first.after(HUGE)
        self.assertEqual([part.placed for part in (promises, first, second)], [(), (5,), (5, HUGE)])
        self.assertEqual([part.is_finished() for part in (promises, first, second)], [False, False, True])
        for part in (first, second):
            self.assertIs(type(part), Promises)
            self.assertEqual((part.rates, part.table, part.fine, part.gauges, part.hour_gauges),
                             (promises.rates, promises.table, 4, ("a", "b"), ()))

    def test_errors_of_the_three_methods(self):
        promises = Promises([2], [["a"]], fine=4)
        self.check_three_methods(promises, promises.after(0), 0, WRONG_FORMS, "a")


class Futures(unittest.TestCase, DepartmentChecks):
    def test_missing_gauges_come_before_values(self):
        for placed in ([], [3], [0, 4]):
            promises = Promises([2, 3], [["b", "d"], [1, "a"]], fine=4, placed=placed)
            completion = [1] * (2 - len(placed))
            certificate = [[] for _ in range(3 - len(placed))]
            calls = [promises.least, promises.finish, promises.certificate, promises.rows,
                     lambda future: promises.cost(completion, future), lambda future: promises.demand([], future),
                     lambda future: promises.bound(certificate, future)]
            if completion:
                calls += [promises.curve, promises.needs, lambda future: promises.regret(0, future),
                          lambda future: promises.level(future, -1), lambda future: promises.level(future, 0)]
            self.check_futures(promises, calls, {"a": 0, "b": 0, "d": 0})

    def test_errors_before_those_of_the_future(self):
        promises = Promises([2, 3], [["b", "a"]], fine=4)
        finished = promises.after(0).after(0)
        for call in (lambda: finished.level({}, 0), lambda: finished.curve({}), lambda: finished.needs({})):
            self.assertEqual(told(call), ("NothingOpen",))
        self.assertEqual(told(promises.cost, [], {}), ("InvalidPlan", 0))
        self.assertEqual(told(promises.cost, [1, 2, 3], {}), ("InvalidPlan", 2))
        self.assertEqual(told(promises.bound, None, {}), ("MissingGauge", "a"))
        self.assertEqual(told(promises.bound, None, {"a": 0, "b": -1}), ("OutOfRange", "b"))
        self.assertEqual(told(promises.bound, None, {"a": 0, "b": 0}), ("InvalidCertificate", 0))
        self.assertEqual(told(promises.demand, [2], {}), ("InvalidGroup", [2]))

    def test_passed_futures_and_returned_lists_are_not_tied(self):
        promises, future = Promises([2, 3], TABLE, fine=4, placed=[1]), {"b": 3, "z": 0, "a": 2}
        calls = (promises.finish, promises.certificate, promises.rows, promises.needs,
                 lambda told: promises.level(told, 3), lambda _: promises.directions(0))
        self.check_untied(promises, calls, future)
        promises.rows(future)[0].append(4)
        promises.certificate(future)[1].append(0)
        promises.directions(0)[0]["a"] = 7
        self.assertEqual(promises.rows(future), [[3, 2], [0, 2]])
        self.assertEqual(promises.certificate(future), [[0], [0]])
        self.assertEqual(promises.directions(0), [{"a": -1, "b": -1}, {"a": 1, "b": 1}])


class Costs(unittest.TestCase):
    def test_costs_of_completions(self):
        dice = random.Random(130)
        for _ in range(80):
            promises, future = random_promises(dice)
            promises = placed_at_random(dice, promises)
            totals = totals_of(promises, future)
            for _ in range(10):
                limits = [dice.randint(0, 8) for _ in range(len(promises.rates) - len(promises.placed))]
                cost = cost_by_words(promises, (*promises.placed, *limits), totals)
                self.assertEqual(promises.cost(limits, future), cost)
                self.assertEqual(promises.cost(tuple(limits), future), cost)

    def test_lists_that_are_no_completion(self):
        promises = Promises([1, 1, 1], [], fine=1, placed=[1])
        for decisions, index in (([], 0), ([3], 1), ([3, 4, 5], 2), ([3, -1], 1), ([None, -1], 0), ([3, [4]], 1),
                                 ([-1], 0), (5, 0), (None, 0), (-3, 0), ((3,), 1), ([[], 4], 0)):
            self.assertEqual(told(promises.cost, decisions, {}), ("InvalidPlan", index), decisions)
        self.assertEqual(told(promises.after(1).after(1).cost, [0], {}), ("InvalidPlan", 0))

    def test_least_costs_and_more_against_all_small_limits(self):
        dice = random.Random(131)
        for _ in range(90):
            promises, future = random_promises(dice)
            while True:
                self.check_against_all_limits(promises, future)
                if promises.is_finished():
                    break
                promises = promises.after(dice.choice((0, 1, 2, 5, 9)))

    def check_against_all_limits(self, promises, future):
        totals = totals_of(promises, future)
        top = max(totals.values()) + 1
        open_classes = len(promises.rates) - len(promises.placed)
        costs = {row: cost_by_words(promises, (*promises.placed, *row), totals)
                 for row in product(range(top + 1), repeat=open_classes)}
        least = min(costs.values())
        self.assertEqual(promises.least(future), least)
        self.assertEqual(promises.cost(promises.finish(future), future), least)
        if promises.is_finished():
            self.assertEqual(promises.finish(future), [])
            return
        self.assertEqual(tuple(promises.finish(future)), min(row for row in costs if costs[row] == least))
        after = [min(cost for row, cost in costs.items() if row[0] == x) for x in range(top + 1)]
        curve = promises.curve(future)
        self.assertIs(type(curve), Curve)
        self.assertEqual([curve(x) for x in range(top + 1)], after)
        self.assertEqual(curve.slope(top), promises.rates[len(promises.placed)])
        self.assertEqual([promises.regret(x, future) for x in range(top + 1)], [cost - least for cost in after])
        self.assertEqual([promises.after(x).least(future) for x in range(top + 1)], after)
        for limit in (0, 1, 4):
            fine = [x for x in range(top + 1) if after[x] <= least + limit]
            low, high = promises.level(future, limit)[0]
            self.assertEqual((low, min(high, top)), (fine[0], fine[-1]))
        self.assertEqual(promises.level(future, -1), [])

    def test_four_classes(self):
        dice = random.Random(132)
        for _ in range(8):
            promises, future = random_promises(dice, classes=(4,), most=1)
            if max(totals_of(promises, future).values()) <= 6:
                self.check_against_all_limits(promises, future)
                self.check_against_all_limits(promises.after(2), future)


class Demands(unittest.TestCase):
    def test_rows(self):
        promises = Promises([1, 2], TABLE, fine=2)
        self.assertEqual(promises.rows({"a": 7, "b": BIG}), [[BIG, 2], [0, 7]])
        self.assertEqual((Promises([1], [], fine=1).rows({}), Promises([1], [[3]], fine=1).rows({})), ([], [[3]]))

    def test_demands_and_needs_against_the_words(self):
        dice = random.Random(133)
        for _ in range(150):
            promises, future = random_promises(dice, classes=(1, 2, 3, 4))
            promises = placed_at_random(dice, promises)
            totals = totals_of(promises, future)
            own = len(promises.placed)
            for group in all_groups(range(own, len(promises.rates))):
                demand = demand_by_words(promises, group, totals)
                self.assertEqual(promises.demand(list(group), future), demand)
                self.assertEqual(promises.demand(group, future), demand)
            self.assertEqual(promises.demand([], future), shortfall_by_words(totals, promises.placed))
            if not promises.is_finished():
                self.check_needs(promises, future, totals)

    def check_needs(self, promises, future, totals):
        own = len(promises.placed)
        dear = dear_by_words(promises, range(own + 1, len(promises.rates)))
        needs = [demand_by_words(promises, (own, *dear[:k]), totals) - demand_by_words(promises, dear[:k], totals)
                 for k in range(len(dear) + 1)]
        self.assertEqual(promises.needs(future), needs)
        self.assertEqual(needs, sorted(needs))
        rates = [promises.rates[at] for at in dear] + [0]
        curve = promises.curve(future)
        for x in range(max(needs) + 2):
            slope = promises.rates[own] - (promises.fine - rates[0]) * (x < needs[0])
            slope -= sum((rates[k - 1] - rates[k]) * (x < needs[k]) for k in range(1, len(dear) + 1))
            self.assertEqual(curve.slope(x), slope)

    def test_the_least_cost_is_that_of_point_47(self):
        dice = random.Random(134)
        for _ in range(150):
            promises, future = random_promises(dice, classes=(1, 2, 3, 4))
            promises = placed_at_random(dice, promises)
            totals = totals_of(promises, future)
            dear = dear_by_words(promises, range(len(promises.placed), len(promises.rates)))
            rates = [promises.rates[at] for at in dear] + [0]
            demands = [demand_by_words(promises, dear[:k], totals) for k in range(len(dear) + 1)]
            cost = sum(rate * limit for rate, limit in zip(promises.rates, promises.placed))
            cost += promises.fine * demands[0]
            cost += sum((rates[k - 1] - rates[k]) * (demands[k] - demands[0]) for k in range(1, len(dear) + 1))
            self.assertEqual(promises.least(future), cost)

    def test_equal_rates(self):
        promises = Promises([2, 2, 2], [["a", 1, 1]], fine=2)
        self.assertEqual(promises.needs({"a": 2}), [1, 3, 5])
        self.assertEqual(promises.curve({"a": 2}).pieces, ((0, 0), (5, 2)))
        self.assertEqual(promises.level({"a": 2}, 0), [(0, 5)])
        self.assertEqual(promises.finish({"a": 2}), [0, 0, 0])
        self.assertEqual(Promises([1, 3, 3], [["a", 1, 1]], fine=4).needs({"a": 2}), [1, 3, 5])
        other = Promises([1, 3, 3], [["a", 2, 1]], fine=4)
        self.assertEqual(other.needs({"a": 2}), [1, 5, 7])

    def test_no_need_falls_if_arrivals_grow(self):
        dice = random.Random(135)
        for _ in range(100):
            promises, future = random_promises(dice, classes=(1, 2, 3, 4))
            promises = placed_at_random(dice, promises)
            more = {gauge: future[gauge] + dice.randint(0, 2) for gauge in promises.gauges}
            if not promises.is_finished():
                self.assertTrue(all(one <= two for one, two in zip(promises.needs(future), promises.needs(more))))

    def test_groups_that_are_none(self):
        promises = Promises([1, 1, 1, 1], [["a", 0, 0, 0]], fine=1, placed=[2])
        for group in ([0], [0, 1], [1, 1], [2, 1], [4], [1, 4], [-1], [None], [[1]], [1, 2, 2], [HUGE], [3, 1, 2]):
            self.assertEqual(told(promises.demand, group, {}), ("InvalidGroup", group))
        self.assertEqual(told(promises.demand, (2, 1), {}), ("InvalidGroup", [2, 1]))
        for group in ([], [1], [1, 3], [1, 2, 3]):
            self.assertEqual(told(promises.demand, group, {}), ("MissingGauge", "a"))
        group = [3, 1]
        with self.assertRaises(ValueError) as caught:
            promises.demand(group, {})
        group.append(2)
        self.assertEqual(caught.exception.group, [3, 1])


class Directions(unittest.TestCase):
    def test_signs(self):
        promises = Promises([1, 2], [["d", "a"], ["c", 3]], fine=2)
        signs = [{"a": -1, "c": -1, "d": -1}, {"a": 1, "c": 1, "d": 1}]
        for part in (promises, promises.after(3)):
            for decision in (0, 5, HUGE):
                self.assertEqual(part.directions(decision), signs)
                self.assertEqual([list(row) for row in part.directions(decision)], [["a", "c", "d"]] * 2)
        self.assertEqual(Promises([1], [], fine=1).directions(0), [{}, {}])

    def test_what_points_22_and_23_say(self):
        dice = random.Random(136)
        pairs = 0
        for _ in range(120):
            promises, _ = random_promises(dice, classes=(1, 2, 3, 4))
            promises = placed_at_random(dice, promises)
            if promises.is_finished():
                continue
            for _ in range(5):
                near = {gauge: dice.randint(0, 4) for gauge in promises.gauges}
                far = {gauge: near[gauge] + dice.randint(0, 2) for gauge in promises.gauges}
                between = {gauge: (near[gauge] + far[gauge]) // 2 for gauge in near}
                ours, middle, theirs = [promises.curve(future) for future in (near, between, far)]
                self.assertTrue(all(one <= two for one, two in zip(ours.lowest()[1:], theirs.lowest()[1:])))
                for x in range(20):
                    self.assertLessEqual(theirs.slope(x), ours.slope(x))
                    regrets = [curve(x) - curve.lowest()[0] for curve in (ours, middle, theirs)]
                    self.assertLessEqual(regrets[1], max(regrets[0], regrets[2]))
                pairs += 1
        self.assertGreater(pairs, 200)

    def test_the_greatest_regret_is_that_of_an_end(self):
        promises = Promises([3, 1], [["a", "b"], [1, "c"]], fine=5)
        dice = random.Random(137)
        for _ in range(20):
            kind = small_kind(dice, list("abc"), 4, 60)
            corners = [future for signs in promises.directions(0) for future in ends(kind, signs)]
            for decision in (0, 2, 4, 7):
                regrets = [promises.regret(decision, future) for future in futures_of(kind)]
                self.assertEqual(max(regrets), max(promises.regret(decision, future) for future in corners))


class Certificates(unittest.TestCase):
    def bound_by_words(self, promises, certificate, totals):
        dear = dear_by_words(promises, range(len(promises.placed), len(promises.rates)))
        rates = [promises.rates[at] for at in dear] + [0]
        parts = [totals[tuple(sorted((*group, *dear[:k])))] - sum(promises.placed[at] for at in group)
                 for k, group in enumerate(certificate)]
        bound = sum(rate * limit for rate, limit in zip(promises.rates, promises.placed))
        bound += (promises.fine - rates[0]) * parts[0]
        return bound + sum((rates[k - 1] - rates[k]) * parts[k] for k in range(1, len(dear) + 1))

    def test_those_of_the_program(self):
        dice = random.Random(138)
        for _ in range(150):
            promises, future = random_promises(dice, classes=(1, 2, 3, 4))
            while True:
                certificate = promises.certificate(future)
                self.assertEqual(len(certificate), len(promises.rates) - len(promises.placed) + 1)
                self.assertEqual(promises.bound(certificate, future), promises.least(future))
                if promises.is_finished():
                    break
                promises = promises.after(dice.randint(0, 6))

    def test_those_of_strangers(self):
        dice = random.Random(139)
        for _ in range(300):
            promises, future = random_promises(dice, classes=(1, 2, 3, 4))
            promises = placed_at_random(dice, promises)
            groups = all_groups(range(len(promises.placed)))
            certificate = [list(dice.choice(groups)) for _ in range(len(promises.rates) - len(promises.placed) + 1)]
            bound = promises.bound(certificate, future)
            self.assertEqual(bound, self.bound_by_words(promises, certificate, totals_of(promises, future)))
            self.assertEqual(promises.bound(tuple(map(tuple, certificate)), future), bound)
            self.assertLessEqual(bound, promises.least(future))

    def test_wrong_forms(self):
        promises = Promises([1, 1, 1, 1], [[0, 2, 0, 3]], fine=1, placed=[2, 0])
        for certificate, index in ((None, 0), (3, 0), ([], 0), ([[]], 1), ([[], []], 2), ([[]] * 4, 3),
                                   ([None] * 9, 3)):
            self.assertEqual(told(promises.bound, certificate, {}), ("InvalidCertificate", index), certificate)
        for bad in (None, 0, [2], [3], [-1], [0, 0], [1, 0], [None], [[0]], [0, 1, 2], [HUGE]):
            self.assertEqual(told(promises.bound, [[], bad, None], {}), ("InvalidCertificate", 1), bad)
            self.assertEqual(told(promises.bound, [bad, [0], [1]], {}), ("InvalidCertificate", 0), bad)
        self.assertIsNone(told(promises.bound, [[0], (1,), [0, 1]], {}))
        self.assertEqual(told(Promises([1], [], fine=1).bound, [[], [0]], {}), ("InvalidCertificate", 1))

    def test_finished_promises(self):
        promises = Promises([1, 2], [[4, 1]], fine=3, placed=[3, 0])
        self.assertEqual([promises.bound([group], {}) for group in ([], [0], [1], [0, 1])],
                         [3, 3 + 3 * 3, 3, 3 + 3 * 7])
        self.assertEqual((promises.certificate({}), promises.least({})), ([[0, 1]], 24))
        self.assertEqual(told(promises.bound, [], {}), ("InvalidCertificate", 0))

    def test_a_passed_certificate_stays(self):
        certificate = [[0], [0]]
        Promises([1, 1], [[1, 1]], fine=1, placed=[0]).bound(certificate, {})
        self.assertEqual(certificate, [[0], [0]])


class Great(unittest.TestCase):
    def test_great_numbers(self):
        promises = Promises([BIG, 1, BIG // 2, BIG - 1], [["a", "b", "c", "d"], [1, 0, BIG, 5], [0] * 4], fine=BIG)
        future = {"a": BIG, "b": BIG - 1, "c": 3, "d": BIG // 3}
        while not promises.is_finished():
            least = promises.least(future)
            self.assertEqual(promises.cost(promises.finish(future), future), least)
            self.assertEqual(promises.bound(promises.certificate(future), future), least)
            best = promises.finish(future)[0]
            for decision in (0, max(0, best - 1), best, best + 1, HUGE):
                after = promises.after(decision)
                self.assertEqual(promises.regret(decision, future), after.least(future) - least)
            self.assertEqual(promises.level(future, 0)[0][0], best)
            promises = promises.after(best + BIG)

    def test_eight_slots_and_very_great_values(self):
        promises = Promises([2, 1], [[f"a{at}", f"b{at}"] for at in range(8)], fine=3)
        future = {f"{letter}{at}": HUGE - at for letter in "ab" for at in range(8)}
        rows = promises.rows(future)
        total = sum(sum(row[0] for row in rows[:at + 1]) - at - 1 for at in range(8))
        left = sum(row[0] for row in rows) - 8
        self.assertEqual(promises.demand([0], future), total + left * (left - 1) // 2)
        self.assertEqual(promises.bound(promises.certificate(future), future), promises.least(future))


class Interface(unittest.TestCase):
    def test_equal_arguments_give_equal_results(self):
        first = Promises([2, 1], TABLE, fine=4, placed=[1])
        second = Promises((2, 1), tuple(map(tuple, TABLE)), fine=4, placed=(1,))
        future = {"b": 3, "a": 2}
        self.assertEqual(first.certificate(future), second.certificate({"a": 2, "b": 3, "c": 1}))
        self.assertEqual(first.finish(future), second.finish(future))

    def test_listed_methods_stand_in_the_class(self):
        for name in ("is_finished", "allows", "after", "regret", "directions", "least", "level", "finish", "cost",
                     "certificate", "bound", "curve", "rows", "demand", "needs"):
            self.assertIn(name, vars(Promises))
        for name in ("rates", "table", "fine", "placed", "gauges", "hour_gauges"):
            self.assertIn(name, vars(Promises([1], [], fine=1)))


if __name__ == "__main__":
    unittest.main()

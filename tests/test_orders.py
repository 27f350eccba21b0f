"""Points 8, 17 to 20 and 27 to 32: orders."""

import random
import unittest
from itertools import product

from everyfuture.curves import Curve
from everyfuture.ends import ends
from everyfuture.kinds import Kind
from everyfuture.lines import Line
from everyfuture.orders import Orders
from tests.brute import BIG, HUGE, futures_of, random_boxes, told

GOOD = (1, 2, 3, 4, 5, 6)
EXAMPLE = [("a", 3, 5, 2, 1, 4), (6, "p", 2, 0, 1, 4)]
# No best order is greater than the sum of all wants of the small orders below.
MOST = 10


def cost_by_words(orders, decisions, future):
    """Return the cost of the completion as point 28 says, one period after another."""
    total, stock = 0, orders.stock
    for (want, price, room, extra, hold, late), order in zip(orders.periods, (*orders.placed, *decisions)):
        want, price = future.get(want, want), future.get(price, price)
        stock += order - want
        total += price * order + extra * max(0, order - room)
        total += hold * stock if stock > 0 else late * -stock
    if len(orders.placed) + len(decisions) == len(orders.periods) and stock < 0:
        total += orders.urgent * -stock
    return total


def completions_of(orders):
    return [list(row) for row in product(range(MOST + 1), repeat=len(orders.periods) - len(orders.placed))]


def random_orders(dice, lengths=(0, 1, 2, 2, 2)):
    """Return small orders with all kinds of readings, and a future for them."""
    names = iter(dice.sample([f"{letter}{at}" for letter in "ab" for at in range(6)], 12))
    future = {"z": -5}
    periods = []
    for _ in range(dice.choice(lengths)):
        row = [dice.randint(0, 3), dice.randint(0, 6), dice.randint(0, 3), dice.randint(0, 3), dice.randint(1, 3),
               dice.randint(0, 5)]
        for at in (0, 1):
            if dice.random() < 0.6:
                name = next(names)
                future[name] = row[at]
                row[at] = name
        periods.append(tuple(row))
    return Orders(periods, stock=dice.randint(0, 3), urgent=dice.randint(0, 9)), future


class Creation(unittest.TestCase):
    def test_attributes(self):
        orders = Orders([("b", "a", 3, 4, 5, 6), (1, 2, 0, 0, 1, 0)], stock=7, urgent=8, placed=[9])
        self.assertEqual((orders.periods, orders.placed), ((("b", "a", 3, 4, 5, 6), (1, 2, 0, 0, 1, 0)), (9,)))
        self.assertEqual((orders.stock, orders.urgent, orders.gauges, orders.hour_gauges), (7, 8, ("a", "b"), ()))
        bare = Orders(())
        self.assertEqual((bare.periods, bare.stock, bare.urgent, bare.placed, bare.gauges, bare.hour_gauges),
                         ((), 0, 0, (), (), ()))

    def test_the_first_wrong_period(self):
        for bad in ((-1, 2, 3, 4, 5, 6), (1, -1, 3, 4, 5, 6), (1, 2, -1, 4, 5, 6), (1, 2, 3, -1, 5, 6),
                    (1, 2, 3, 4, 0, 6), (1, 2, 3, 4, 5, -1), (1, 2, 3, 4, -HUGE, 6),
                    ("A", 2, 3, 4, 5, 6), (1, "", 3, 4, 5, 6),
                    (1, "abcdefghi", 3, 4, 5, 6), ("a\n", 2, 3, 4, 5, 6)):
            self.assertEqual(told(Orders, [GOOD, bad, (-1, -1, -1, -1, -1, -1)]), ("InvalidPeriod", 1), bad)
        self.assertIsNone(told(Orders, [(0, 0, 0, 0, 1, 0), ("a", "b", 0, 0, 1, 0)]))

    def test_the_first_gauge_that_is_read_again(self):
        self.assertEqual(told(Orders, [("a", "a", 3, 4, 5, 6)]), ("SharedGauge", "a"))
        periods = [("b", "c", 3, 4, 5, 6), ("d", "c", 3, 4, 5, 6), ("b", "b", 3, 4, 5, 6)]
        self.assertEqual(told(Orders, periods), ("SharedGauge", "c"))
        self.assertEqual(told(Orders, periods[::2]), ("SharedGauge", "b"))

    def test_the_order_of_errors(self):
        bad, shared = (-1, 2, 3, 4, 5, 6), ("a", "a", 3, 4, 5, 6)
        self.assertEqual(told(Orders, [shared, bad], stock=-1, urgent=-2, placed=[-1]), ("InvalidPeriod", 1))
        self.assertEqual(told(Orders, [shared], stock=-1, urgent=-2, placed=[-1]), ("SharedGauge", "a"))
        self.assertEqual(told(Orders, [GOOD], stock=-1, urgent=-2, placed=[-1]), ("InvalidAmount", -1))
        self.assertEqual(told(Orders, [GOOD], urgent=-HUGE, placed=[-1]), ("InvalidAmount", -HUGE))
        self.assertEqual(told(Orders, [GOOD], placed=[-1]), ("InvalidPlan", 0))

    def test_placed_decisions_that_cannot_be_placed(self):
        self.assertEqual(told(Orders, [], placed=[0]), ("InvalidPlan", 0))
        self.assertEqual(told(Orders, [GOOD, GOOD], placed=[0, 1, 2]), ("InvalidPlan", 2))
        for bad in (None, [], [1], [[None]], -1, -HUGE):
            self.assertEqual(told(Orders, [GOOD, GOOD], placed=[3, bad]), ("InvalidPlan", 1))
            self.assertEqual(told(Orders, [GOOD, GOOD], placed=(bad, bad)), ("InvalidPlan", 0))
        self.assertEqual(Orders([GOOD, GOOD], placed=(0, HUGE)).placed, (0, HUGE))

    def test_nothing_is_tied(self):
        periods, placed = [GOOD, GOOD], [4]
        orders = Orders(periods, placed=placed)
        periods.append(GOOD)
        placed.append(5)
        self.assertEqual((orders.periods, orders.placed), ((GOOD, GOOD), (4,)))


class Placing(unittest.TestCase):
    def test_decisions_of_the_right_form(self):
        orders = Orders([GOOD])
        for decision in (0, 1, HUGE):
            self.assertIs(orders.allows(decision), True)
        for decision in (-1, -HUGE, None, [], [1], (), (0,), [None], [[0], [[]]]):
            self.assertIs(orders.allows(decision), False)

    def test_placing_one_after_another(self):
        orders = Orders([GOOD, GOOD], stock=7, urgent=8)
        first = orders.after(3)
        second = first.after(HUGE)
        self.assertEqual([part.placed for part in (orders, first, second)], [(), (3,), (3, HUGE)])
        self.assertEqual([part.is_finished() for part in (orders, first, second)], [False, False, True])
        for part in (first, second):
            self.assertIs(type(part), Orders)
            self.assertEqual((part.periods, part.stock, part.urgent), (orders.periods, 7, 8))
            self.assertEqual((part.gauges, part.hour_gauges), (orders.gauges, ()))
        self.assertIs(second.allows(0), False)
        self.assertIs(Orders([]).is_finished(), True)
        self.assertIs(Orders([]).allows(0), False)

    def test_gauges_of_placed_orders_stay(self):
        self.assertEqual(Orders(EXAMPLE).after(4).gauges, ("a", "p"))

    def test_errors_of_the_three_methods(self):
        orders = Orders([("a", 2, 3, 4, 5, 6)])
        finished = orders.after(1)
        calls = (lambda part, decision: part.after(decision), lambda part, decision: part.directions(decision),
                 lambda part, decision: part.regret(decision, {}))
        for call in calls:
            for decision in (0, -1, None, [1]):
                self.assertEqual(told(call, finished, decision), ("NothingOpen",))
            for decision in (-1, None, [1], [], [[None], 2]):
                self.assertEqual(told(call, orders, decision), ("InvalidDecision", decision))
            self.assertEqual(told(call, orders, (1, (2, None))), ("InvalidDecision", [1, [2, None]]))
        self.assertEqual(told(orders.regret, 0, {}), ("MissingGauge", "a"))


class Futures(unittest.TestCase):
    def calls(self, orders):
        """Return all methods that take a future, with good other arguments."""
        completion = [0] * (len(orders.periods) - len(orders.placed))
        calls = [orders.least, orders.finish, orders.certificate, orders.spent, orders.stock_now, orders.to_go,
                 lambda future: orders.cost(completion, future), lambda future: orders.bound([], future)]
        if completion:
            calls += [orders.curve, lambda future: orders.regret(0, future), lambda future: orders.level(future, -1),
                      lambda future: orders.level(future, 0)]
        return calls

    def test_missing_gauges_come_before_values(self):
        periods = [("d", "b", 0, 0, 1, 0), (1, "c", 0, 0, 1, 0)]
        for placed in ((), (1,), (1, 2)):
            for call in self.calls(Orders(periods, placed=placed)):
                self.assertEqual(told(call, {}), ("MissingGauge", "b"))
                self.assertEqual(told(call, {"a": 1, "b": -1, "d": -1}), ("MissingGauge", "c"))
                self.assertEqual(told(call, {"b": 0, "c": -1, "d": -1}), ("OutOfRange", "c"))
                self.assertEqual(told(call, {"d": -HUGE, "c": 0, "b": 0}), ("OutOfRange", "d"))

    def test_errors_before_those_of_the_future(self):
        orders = Orders([("a", 2, 3, 4, 5, 6)])
        finished = orders.after(0)
        self.assertEqual(told(finished.level, {}, 0), ("NothingOpen",))
        self.assertEqual(told(finished.curve, {}), ("NothingOpen",))
        self.assertEqual(told(orders.cost, [], {}), ("InvalidPlan", 0))
        self.assertEqual(told(orders.cost, [1, 2], {}), ("InvalidPlan", 1))
        self.assertEqual(told(orders.bound, None, {}), ("MissingGauge", "a"))
        self.assertEqual(told(orders.bound, None, {"a": -1}), ("OutOfRange", "a"))
        self.assertEqual(told(orders.bound, None, {"a": 0}), ("InvalidCertificate", 0))

    def test_passed_futures_and_returned_lists_are_not_tied(self):
        orders, future = Orders(EXAMPLE, urgent=10), {"p": 9, "a": 4}
        for call in (orders.finish, orders.certificate, lambda told: orders.level(told, 3)):
            before = list(call(future))
            call(future).append(5)
            self.assertEqual(call(future), before)
        orders.directions(0)[0]["a"] = 7
        orders.directions(0).pop()
        self.assertEqual(orders.directions(0), [{"a": -1, "p": -1}, {"a": 1, "p": 1}])
        self.assertEqual(list(future.items()), [("p", 9), ("a", 4)])


class Costs(unittest.TestCase):
    def test_costs_of_completions(self):
        dice = random.Random(70)
        for _ in range(60):
            orders, future = random_orders(dice)
            for decisions in completions_of(orders)[::3]:
                self.assertEqual(orders.cost(decisions, future), cost_by_words(orders, decisions, future))
                self.assertEqual(orders.cost(tuple(decisions), future), cost_by_words(orders, decisions, future))
                if decisions:
                    after = orders.after(decisions[0])
                    self.assertEqual(after.cost(decisions[1:], future), orders.cost(decisions, future))

    def test_lists_that_are_no_completion(self):
        orders = Orders([GOOD, GOOD, GOOD], placed=[1])
        for decisions, index in (([], 0), ([3], 1), ([3, 4, 5], 2), ([3, -1], 1), ([None, -1], 0), ([3, [4]], 1),
                                 ([3, None, 5], 1), ([-1], 0), (5, 0), (None, 0), (-3, 0), ((3,), 1), ([[], 4], 0)):
            self.assertEqual(told(orders.cost, decisions, {}), ("InvalidPlan", index), decisions)
        self.assertEqual(told(Orders([]).cost, [0], {}), ("InvalidPlan", 0))
        self.assertEqual(told(Orders([]).cost, None, {}), ("InvalidPlan", 0))

    def test_units_that_are_missing_in_the_end(self):
        orders = Orders([(5, 0, 0, 0, 1, 2)], stock=1, urgent=10)
        self.assertEqual([orders.cost([order], {}) for order in (0, 3, 4, 6)], [48, 12, 0, 2])

    def test_least_costs_and_more_against_all_completions(self):
        dice = random.Random(71)
        for _ in range(150):
            orders, future = random_orders(dice)
            while True:
                self.check_against_all_completions(orders, future)
                if orders.is_finished():
                    break
                orders = orders.after(dice.randint(0, 5))

    def check_against_all_completions(self, orders, future):
        costs = {tuple(row): cost_by_words(orders, row, future) for row in completions_of(orders)}
        least = min(costs.values())
        self.assertEqual(orders.least(future), least)
        self.assertEqual(orders.cost(orders.finish(future), future), least)
        self.assertEqual(orders.spent(future) + orders.to_go(future)(orders.stock_now(future)), least)
        if orders.is_finished():
            self.assertEqual(orders.finish(future), [])
            return
        after = [min(cost for row, cost in costs.items() if row[0] == x) for x in range(MOST + 1)]
        curve = orders.curve(future)
        self.assertIs(type(curve), Curve)
        self.assertEqual([curve(x) for x in range(MOST + 1)], after)
        self.assertEqual([orders.regret(x, future) for x in range(MOST + 1)], [cost - least for cost in after])
        self.assertEqual([orders.after(x).least(future) for x in range(MOST + 1)], after)
        self.assertEqual(orders.finish(future)[0], after.index(least))
        for limit in (0, 1, 5):
            fine = [x for x in range(MOST + 1) if after[x] <= least + limit]
            low, high = orders.level(future, limit)[0]
            self.assertEqual((low, min(high, MOST)), (fine[0], fine[-1]))
        self.assertEqual(orders.level(future, -1), [])

    def test_the_completion_has_the_least_best_decision_each_time(self):
        dice = random.Random(72)
        for _ in range(60):
            orders, future = random_orders(dice)
            for decision in orders.finish(future):
                self.assertEqual(decision, orders.level(future, 0)[0][0])
                orders = orders.after(decision)

    def test_the_line_to_go_against_all_stocks(self):
        dice = random.Random(73)
        for _ in range(60):
            orders, future = random_orders(dice)
            line = orders.to_go(future)
            self.assertIs(type(line), Line)
            for stock in range(4):
                costs = [cost_by_words(Orders(orders.periods, stock=stock, urgent=orders.urgent), row, future)
                         for row in completions_of(orders)]
                self.assertEqual(line(stock), min(costs))

    def test_the_line_to_go_is_made_as_point_29_says(self):
        orders = Orders([("a", 3, 5, 2, 1, 4), (6, "p", 2, 0, 2, 3)], urgent=10)
        future = {"a": 4, "p": 9}
        last = Line(0, -10, [(0, 10)])
        second = (Line(0, -3, [(0, 5)]) + last).moved(6).fed(9, 2, 0)
        first = (Line(0, -4, [(0, 5)]) + second).moved(4).fed(3, 5, 2)
        self.assertEqual([orders.to_go(future), orders.after(0).to_go(future), orders.after(0).after(0).to_go(future)],
                         [first, second, last])
        self.assertEqual(Orders([]).to_go({}), Line(0, 0, []))

    def test_spent_and_stock_now(self):
        orders = Orders(EXAMPLE, stock=2, urgent=10)
        future = {"a": 4, "p": 9}
        parts = (orders, orders.after(7), orders.after(0), orders.after(7).after(0), orders.after(0).after(1))
        self.assertEqual([(part.spent(future), part.stock_now(future)) for part in parts],
                         [(0, 2), (3 * 7 + 2 * 2 + 5, 5), (8, -2), (30 + 4, -1), (8 + 9 + 28, -7)])


class NoPeriods(unittest.TestCase):
    def test_all_methods(self):
        orders = Orders([], stock=5, urgent=6)
        self.assertEqual([orders.is_finished(), orders.least({}), orders.finish({}), orders.cost([], {}),
                          orders.certificate({}), orders.bound([], {}), orders.spent({}), orders.stock_now({}),
                          orders.to_go({})], [True, 0, [], 0, [], 0, 0, 5, Line(0, -6, [(0, 6)])])
        self.assertEqual(told(orders.curve, {}), ("NothingOpen",))
        self.assertEqual(told(orders.level, {}, 1), ("NothingOpen",))
        self.assertEqual(told(orders.bound, [0], {}), ("InvalidCertificate", 0))


class Great(unittest.TestCase):
    def test_great_numbers(self):
        periods = [("a", "b", BIG // 2, BIG, BIG, BIG), (BIG, BIG, BIG, 0, 1, 0), ("c", 0, 0, BIG - 1, 7, BIG)]
        orders = Orders(periods, stock=BIG, urgent=BIG)
        future = {"a": BIG, "b": 1, "c": BIG - 3}
        completion = orders.finish(future)
        self.assertEqual(orders.cost(completion, future), orders.least(future))
        self.assertEqual(orders.bound(orders.certificate(future), future), orders.least(future))
        for decision in (0, completion[0] + 1, BIG, HUGE):
            after = orders.after(decision)
            self.assertEqual(orders.regret(decision, future), after.least(future) - orders.least(future))
            self.assertEqual(after.bound(after.certificate(future), future), after.least(future))
        low, high = orders.level(future, HUGE)[0]
        self.assertLessEqual(orders.regret(high, future), HUGE)
        self.assertGreater(orders.regret(high + 1, future), HUGE)
        self.assertEqual(low, 0)

    def test_ten_periods(self):
        periods = [(f"w{at}", f"p{at}", 10 ** 17, 5 * 10 ** 17, 1 + at, BIG - at) for at in range(10)]
        orders = Orders(periods, urgent=BIG)
        future = {f"w{at}": (at * 7 % 10) * 10 ** 17 for at in range(10)}
        future |= {f"p{at}": (at * 3 % 10) * 10 ** 17 for at in range(10)}
        while not orders.is_finished():
            self.assertEqual(orders.cost(orders.finish(future), future), orders.least(future))
            self.assertEqual(orders.bound(orders.certificate(future), future), orders.least(future))
            orders = orders.after(orders.finish(future)[0] + 5)

    def test_futures_with_very_great_values(self):
        orders = Orders([("a", "b", 2, 3, 1, 4)], urgent=10)
        future = {"a": HUGE, "b": 1}
        self.assertEqual(orders.finish(future), [HUGE])
        self.assertEqual(orders.least(future), HUGE + 3 * (HUGE - 2))
        self.assertEqual(orders.finish({"a": HUGE, "b": HUGE}), [0])


class Directions(unittest.TestCase):
    def test_signs(self):
        periods = [("c", "b", 0, 0, 1, 0), ("a", "e", 0, 0, 1, 0), (3, "d", 0, 0, 1, 0)]
        orders = Orders(periods)
        for decision, price in ((0, "b"), (5, "e"), (9, "d")):
            second = {gauge: 1 for gauge in "abcde"}
            second[price] = -1
            first = {gauge: -second[gauge] for gauge in "abcde"}
            self.assertEqual(orders.directions(decision), [first, second])
            self.assertEqual(orders.directions(decision + 1), [first, second])
            self.assertEqual([list(signs) for signs in orders.directions(0)], [list("abcde")] * 2)
            orders = orders.after(decision)

    def test_no_gauges_and_a_fixed_price(self):
        self.assertEqual(Orders([GOOD]).directions(0), [{}, {}])
        self.assertEqual(Orders([("a", 3, 0, 0, 1, 0)]).directions(0), [{"a": -1}, {"a": 1}])

    def test_what_points_22_and_23_say(self):
        dice = random.Random(74)
        pairs = 0
        for _ in range(120):
            orders, _ = random_orders(dice)
            if len(orders.periods) == 2 and dice.random() < 0.4:
                orders = orders.after(dice.randint(0, 4))
            if orders.is_finished():
                continue
            for _ in range(20):
                near = {gauge: dice.randint(0, 5) for gauge in orders.gauges}
                signs = orders.directions(0)[1]
                far = {gauge: near[gauge] + dice.randint(0, 2) * signs[gauge] for gauge in orders.gauges}
                if min(far.values(), default=0) >= 0:
                    pairs += 1
                    self.check_pair(orders, near, far)
        self.assertGreater(pairs, 500)

    def check_pair(self, orders, near, far):
        between = {gauge: (near[gauge] + far[gauge]) // 2 for gauge in near}
        ours, middle, theirs = [orders.curve(future) for future in (near, between, far)]
        self.assertTrue(all(mine <= other for mine, other in zip(ours.lowest()[1:], theirs.lowest()[1:])))
        self.assertTrue(all(theirs.slope(x) <= ours.slope(x) for x in range(25)))
        for x in range(25):
            regrets = [curve(x) - curve.lowest()[0] for curve in (ours, middle, theirs)]
            self.assertLessEqual(regrets[1], max(regrets[0], regrets[2]))

    def test_the_greatest_regret_is_that_of_an_end(self):
        orders = Orders([("a", "b", 1, 1, 2, 3), ("c", 4, 0, 0, 1, 5)], stock=1, urgent=9)
        dice = random.Random(77)
        for _ in range(20):
            kind = Kind(["a", "b", "c"], random_boxes(dice, 3, 5, 3))
            corners = [future for signs in orders.directions(0) for future in ends(kind, signs)]
            for decision in (0, 2, 4, 7):
                regrets = [orders.regret(decision, future) for future in futures_of(kind)]
                self.assertEqual(max(regrets), max(orders.regret(decision, future) for future in corners))


class Certificates(unittest.TestCase):
    def test_those_of_the_program(self):
        dice = random.Random(75)
        for _ in range(500):
            orders, future = random_orders(dice, (0, 1, 2, 3, 5))
            while True:
                certificate = orders.certificate(future)
                self.assertEqual(len(certificate), len(orders.periods) - len(orders.placed))
                self.assertEqual(orders.bound(certificate, future), orders.least(future))
                if orders.is_finished():
                    break
                orders = orders.after(dice.randint(0, 5))

    def test_units_that_are_missing_for_a_while(self):
        for orders in (Orders([(2, 3, 2, 0, 2, 2), (0, 1, 1, 3, 3, 1)], urgent=3),
                       Orders([(1, 1, 2, 0, 2, 0), (0, 0, 1, 2, 1, 1)], urgent=2)):
            self.assertEqual(orders.bound(orders.certificate({}), {}), orders.least({}))

    def fault_by_words(self, orders, certificate, future):
        """Return the index of the first condition of point 31 that does not hold, or None."""
        done, last = len(orders.placed), len(orders.periods) - 1
        for t in range(done, last + 1):
            _, price, _, extra, hold, late = orders.periods[t]
            y = certificate[t - done]
            if y > future.get(price, price) + extra:
                return t - done
            if t < last and (certificate[t - done + 1] - y > hold or y - certificate[t - done + 1] > late):
                return t - done
            if t == last and (y < -hold or y > late + orders.urgent):
                return t - done
        return None

    def bound_by_words(self, orders, certificate, future):
        total = orders.spent(future)
        for y, (want, price, room, _, _, _) in zip(certificate, orders.periods[len(orders.placed):]):
            total += y * future.get(want, want) - room * max(0, y - future.get(price, price))
        return total - certificate[0] * orders.stock_now(future)

    def test_those_of_strangers(self):
        dice = random.Random(76)
        valid = faults = 0
        for _ in range(400):
            orders, future = random_orders(dice)
            if orders.periods and dice.random() < 0.4:
                orders = orders.after(dice.randint(0, 5))
            many = len(orders.periods) - len(orders.placed)
            if not many:
                continue
            certificate = [dice.randint(-3, 9) for _ in range(many)]
            fault = self.fault_by_words(orders, certificate, future)
            if fault is None:
                valid += 1
                bound = orders.bound(tuple(certificate), future)
                self.assertEqual(bound, self.bound_by_words(orders, certificate, future))
                self.assertLessEqual(bound, orders.least(future))
            else:
                faults += 1
                self.assertEqual(told(orders.bound, certificate, future), ("InvalidCertificate", fault))
        self.assertGreater(min(valid, faults), 40)

    def test_each_condition_exactly_met_and_missed_by_one(self):
        orders = Orders([(0, 20, 0, 3, 2, 4), (0, 5, 0, 9, 6, 1)], urgent=7)
        for certificate in ([4, 6], [10, 6], [-8, -6], [12, 8], [6, 8]):
            self.assertIsNone(told(orders.bound, certificate, {}), certificate)
        for certificate, index in (([4, 7], 0), ([11, 6], 0), ([-9, -7], 1), ([9, 9], 1), ([24, 20], 0), ([13, 9], 1)):
            self.assertEqual(told(orders.bound, certificate, {}), ("InvalidCertificate", index), certificate)
        dear = Orders([(0, 20, 0, 3, 2, 99)], urgent=99)
        self.assertIsNone(told(dear.bound, [23], {}))
        self.assertEqual(told(dear.bound, [24], {}), ("InvalidCertificate", 0))

    def test_wrong_forms(self):
        orders = Orders([GOOD, GOOD, GOOD, GOOD], placed=[1])
        for certificate, index in ((None, 0), (3, 0), ([], 0), ([0], 1), ([0, 0], 2), ([0, 0, 0, 0], 3),
                                   ([None] * 9, 3), ([0, None, 99], 1), ([99, 0, []], 2), ([[0], None, 0], 0),
                                   ([0, 0, [0]], 2), ((0, (), 0), 1)):
            self.assertEqual(told(orders.bound, certificate, {}), ("InvalidCertificate", index), certificate)
        self.assertIsNone(told(orders.bound, [0, 0, 0], {}))

    def test_finished_orders(self):
        orders = Orders([(5, 2, 1, 3, 1, 4)], urgent=10, placed=[2])
        self.assertEqual([orders.certificate({}), orders.bound([], {}), orders.bound((), {}), orders.least({})],
                         [[], 49, 49, 49])
        self.assertEqual(told(orders.bound, [0], {}), ("InvalidCertificate", 0))
        self.assertEqual(told(orders.bound, [None], {}), ("InvalidCertificate", 0))
        self.assertEqual(told(orders.bound, None, {}), ("InvalidCertificate", 0))

    def test_great_values(self):
        orders = Orders([GOOD])
        self.assertEqual(told(orders.bound, [HUGE], {}), ("InvalidCertificate", 0))
        self.assertEqual(told(orders.bound, [-HUGE], {}), ("InvalidCertificate", 0))

    def test_a_passed_certificate_stays(self):
        certificate = [0]
        Orders([GOOD]).bound(certificate, {})
        self.assertEqual(certificate, [0])


class Example(unittest.TestCase):
    def test_point_32(self):
        orders = Orders([("a", 3, 5, 2, 1, 4), (6, "p", 2, 0, 1, 4)], urgent=10)
        self.assertEqual(orders.finish({"a": 4, "p": 1}), [4, 6])
        self.assertEqual(orders.least({"a": 4, "p": 1}), 18)
        self.assertEqual(orders.cost([4, 6], {"a": 4, "p": 1}), 4 * 3 + 6 * 1)
        self.assertEqual(orders.finish({"a": 4, "p": 9}), [10, 0])
        self.assertEqual(orders.least({"a": 4, "p": 9}), 10 * 3 + 5 * 2 + 6 * 1)
        self.assertEqual(orders.cost([10, 0], {"a": 4, "p": 9}), 46)
        self.assertEqual(orders.cost([4, 6], {"a": 4, "p": 9}), 66)

    def test_equal_arguments_give_equal_results(self):
        first, second = Orders(EXAMPLE, urgent=10), Orders(tuple(EXAMPLE), urgent=10)
        for future in ({"a": 4, "p": 9}, {"p": 9, "a": 4, "z": 1}):
            self.assertEqual(first.certificate(future), second.certificate({"a": 4, "p": 9}))
            self.assertEqual(first.finish(future), second.finish({"a": 4, "p": 9}))

    def test_listed_methods_stand_in_the_class(self):
        for name in ("is_finished", "allows", "after", "regret", "directions", "least", "level", "finish", "cost",
                     "certificate", "bound", "curve", "spent", "stock_now", "to_go"):
            self.assertIn(name, vars(Orders))
        self.assertEqual(sorted(vars(Orders([]))), ["gauges", "hour_gauges", "periods", "placed", "stock", "urgent"])


if __name__ == "__main__":
    unittest.main()

"""Points 17 to 20, 22, 23, 60 and 61: houses."""

import random
import unittest
from itertools import product

from everyfuture.ends import ends
from everyfuture.houses import House
from everyfuture.kinds import Kind, menu
from everyfuture.orders import Orders
from everyfuture.plans import Plans
from everyfuture.promises import Promises
from everyfuture.works import Works
from tests.brute import BIG, HUGE, ends_by_words, told
from tests.departments import DepartmentChecks
from tests.houses import completions_of, day_regret, kind_of, leaves_of, open_house, own_futures, random_decision
from tests.houses import random_house

ORDERS = Orders([("w", 2, 0, 0, 1, 3)], urgent=9)
PLANS = Plans(("one", ["b", ("all", ["a", 2])]))
WORKS = Works([[("h", 3)], [(2, "v")]])
PROMISES = Promises([2], [["j"]], fine=5)
DONE = Plans(("all", ["d", 1]))
GOOD = {"w": 1, "a": 1, "b": 1, "h": 1, "v": 1, "j": 1, "d": 1}


def nested():
    """Return a house with a house, a house without departments and a finished department within it."""
    return House([ORDERS, House([PLANS, House([]), WORKS]), DONE, PROMISES])


class Creation(unittest.TestCase):
    def test_attributes(self):
        house = nested()
        self.assertEqual([type(part) for part in house.parts], [Orders, House, Plans, Promises])
        self.assertIs(type(house.parts), tuple)
        self.assertEqual(house.gauges, ("a", "b", "d", "h", "j", "v", "w"))
        self.assertEqual(house.hour_gauges, ("h",))
        self.assertEqual((house.parts[1].gauges, house.parts[1].hour_gauges), (("a", "b", "h", "v"), ("h",)))
        empty = House([])
        self.assertEqual((empty.parts, empty.gauges, empty.hour_gauges), ((), (), ()))
        two = House((Works([[("m", 1)]]), Works([[("c", "d"), (1, "e")]])))
        self.assertEqual((two.gauges, two.hour_gauges), (("c", "d", "e", "m"), ("c", "m")))

    def test_what_other_departments_have_and_houses_do_not(self):
        for house in (nested(), House([])):
            for name in ("placed", "level", "curve"):
                self.assertFalse(hasattr(house, name))

    def test_the_methods_stand_in_the_class(self):
        for name in ("is_finished", "allows", "after", "regret", "directions", "least", "finish", "cost", "certificate",
                     "bound"):
            for of in (House, Orders, Plans, Works, Promises):
                self.assertIn(name, vars(of))

    def test_the_first_shared_gauge(self):
        first, second = Plans(("all", ["c", "b"])), Plans(("all", ["e", "f"]))
        self.assertEqual(told(House, [first, second, Plans(("all", ["e", "b", "c", "a"]))]), ("SharedGauge", "b"))
        self.assertEqual(told(House, [first, second, Plans("f"), Plans("b")]), ("SharedGauge", "f"))
        self.assertEqual(told(House, [first, House([Plans("a"), second]), Plans("e")]), ("SharedGauge", "e"))
        self.assertEqual(told(House, [first, House([second, House([Plans("b")])])]), ("SharedGauge", "b"))
        self.assertEqual(told(House, (first, first)), ("SharedGauge", "b"))
        self.assertIsNone(told(House, [first, second, Plans(5), Plans(5), House([]), House([])]))

    def test_gauges_that_plans_have_removed(self):
        plans = Plans(("one", ["a", "b"]))
        self.assertEqual(told(House, [plans, Plans("b")]), ("SharedGauge", "b"))
        house = House([plans.after(0), Plans(("one", ["b", 3]))])
        self.assertEqual(house.gauges, ("a", "b"))
        self.assertEqual(told(House, [plans.after(1), Plans("b")]), ("SharedGauge", "b"))
        wide = House([plans, Plans(("one", ["c", 3]))])
        self.assertEqual(wide.gauges, ("a", "b", "c"))
        self.assertEqual(wide.after([1, None]).gauges, ("b", "c"))
        self.assertEqual(wide.after([None, 1]).gauges, ("a", "b"))
        self.assertEqual(wide.after([0, 1]).gauges, ("a",))
        self.assertEqual(House([wide.after([1, 1]), Plans("a"), Plans("c")]).gauges, ("a", "b", "c"))

    def test_nothing_is_tied(self):
        parts = [ORDERS, PLANS]
        house = House(parts)
        parts.append(WORKS)
        parts[0] = PROMISES
        self.assertEqual((house.parts, house.gauges), ((ORDERS, PLANS), ("a", "b", "w")))


class Decisions(unittest.TestCase, DepartmentChecks):
    def test_what_is_allowed(self):
        house = nested()
        for decision in ([0, [0, None, 1], None, 5], [HUGE, None, None, HUGE], [None, [None, None, None], None, None],
                         [None, None, None, None], (0, (1, None, 0), None, 0), [3, [None, None, 1], None, None]):
            self.assertIs(house.allows(decision), True, decision)
        for decision in ([], [0], [0, [0, None, 1], None], [0, [0, None, 1], None, 5, None], 0, -1, None, HUGE,
                         [-1, None, None, 0], [[0], None, None, 0], [0, 0, None, 0], [0, [], None, 0],
                         [0, [0, None], None, 0], [0, [2, None, 0], None, 0], [0, [0, [], 0], None, 0],
                         [0, [0, None, 2], None, 0], [0, [0, None, -1], None, 0], [0, None, 0, 0], [0, None, [], 0],
                         [0, [0, None, [0]], None, 0], [[], [], [], []], [0, [0, None, 0, None], None, 0]):
            self.assertIs(house.allows(decision), False, decision)

    def test_finished_houses(self):
        for house in (House([]), House([DONE]), House([DONE, House([Plans(3)])]),
                      House([House([]), House([House([])])])):
            self.assertIs(house.is_finished(), True)
            for decision in ([], [None], [None, None], [0], [[]], None, 0):
                self.assertIs(house.allows(decision), False)
                for call in (house.after, house.directions, lambda row, part=house: part.regret(row, {})):
                    self.assertEqual(told(call, decision), ("NothingOpen",))
        self.assertIs(House([DONE, PLANS]).is_finished(), False)
        self.assertIs(House([DONE, House([PLANS])]).is_finished(), False)

    def test_only_none_for_a_finished_house_within_a_house(self):
        house = House([House([DONE]), House([]), PLANS])
        self.assertIs(house.allows([None, None, 0]), True)
        for bad in ([[None], None, 0], [None, [], 0], [[], None, 0], [0, None, 0]):
            self.assertIs(house.allows(bad), False)

    def test_after(self):
        house = nested()
        after = house.after([4, [1, None, None], None, None])
        self.assertEqual((house.parts[0].placed, house.parts[1].parts[0].placed), ((), ()))
        self.assertEqual([after.parts[0].placed, after.parts[1].parts[0].placed, after.parts[1].parts[2].placed,
                          after.parts[2].placed, after.parts[3].placed], [(4,), (1,), (), (), ()])
        self.assertIs(type(after), House)
        self.assertIs(type(after.parts[1]), House)
        same = house.after((None, (None, None, None), None, None))
        self.assertEqual([leaf.placed for leaf in leaves_of(same)], [()] * 5)
        last = after.after([None, [None, None, 1], None, 7]).after([None, [None, None, 0], None, None])
        self.assertIs(last.is_finished(), True)
        self.assertEqual([leaf.placed for leaf in leaves_of(last)], [(4,), (1,), (1, 0), (), (7,)])

    def test_the_whole_decision_is_in_the_error(self):
        house = nested()
        for decision in ((0, (0, (), None), None, (3, (None,))), [0, [0, None, 9], None, 5], [None], (), None, -HUGE):
            shown = [0, [0, [], None], None, [3, [None]]] if decision and isinstance(decision, tuple) else decision
            shown = [] if decision == () else shown
            for call in (house.after, house.directions, lambda row: house.regret(row, {})):
                self.assertEqual(told(call, decision), ("InvalidDecision", shown))

    def test_the_decision_is_copied_for_the_error(self):
        decision = [0, [9, None, 0], None, 0]
        try:
            nested().after(decision)
        except ValueError as error:
            decision[1].append(7)
            self.assertEqual(error.decision, [0, [9, None, 0], None, 0])

    def test_regrets(self):
        house = nested()
        for bad in ({}, {**GOOD, "h": 0}):
            self.assertEqual(told(house.regret, [0], bad), ("InvalidDecision", [0]))
        self.assertEqual(house.regret([None, None, None, None], GOOD), 0)
        self.assertEqual(house.regret([None, [None, None, None], None, None], GOOD), 0)
        for decision in ([5, None, None, None], [None, [1, None, None], None, None], [None, None, None, 2]):
            self.assertEqual(house.regret(decision, GOOD), day_regret(house, decision, GOOD))
            self.assertGreater(house.regret(decision, GOOD), 0)


class Futures(unittest.TestCase, DepartmentChecks):
    def test_missing_gauges_before_values_over_all_gauges(self):
        house = nested()
        calls = (house.least, house.finish, house.certificate, lambda future: house.regret([0, None, None, 0], future),
                 lambda future: house.cost([[0], [[0], [], [0, 1]], [], [0]], future),
                 lambda future: house.bound([[2], [[1, 1, 3, 1, 2], [], [[1], [1]]], [1, 0, 1], [[], []]], future))
        future = dict(GOOD)
        for call in calls[:4]:
            self.assertEqual(told(call, {**future, "a": -1, "h": 0}), ("OutOfRange", "a"))
            self.assertEqual(told(call, {**future, "h": 0, "v": -1}), ("OutOfRange", "h"))
            low = {**future, "a": -1}
            del low["w"]
            self.assertEqual(told(call, low), ("MissingGauge", "w"))
            self.check_futures(house, [call], {gauge: 1 if gauge == "h" else 0 for gauge in house.gauges})
        for call in calls:
            self.assertEqual(told(call, {}), ("MissingGauge", "a"))
            self.assertEqual(told(call, {**future, "a": -1, "h": 0}), ("OutOfRange", "a"))
            self.assertEqual(told(call, {**future, "j": -1, "w": -1}), ("OutOfRange", "j"))

    def test_completions_are_checked_before_the_future_and_certificates_after_it(self):
        house = nested()
        for future in ({}, {"a": 1}, {gauge: -1 for gauge in GOOD}):
            self.assertEqual(told(house.cost, [[0], [[0], [], [0, 1]], [], [-1]], future), ("InvalidPlan", 3))
            self.assertEqual(told(house.cost, [[0], [[0], [], [0, 0]], [], [-1]], future), ("InvalidPlan", 1))
            self.assertEqual(told(house.cost, 5, future), ("InvalidPlan", 0))
            self.assertIn(told(house.bound, 5, future), (("MissingGauge", "a"), ("MissingGauge", "b"),
                                                         ("OutOfRange", "a")))

    def test_a_house_without_departments(self):
        house = House([])
        self.assertEqual((house.least({}), house.finish({}), house.cost([], {}), house.certificate({})),
                         (0, [], 0, []))
        self.assertEqual(house.bound([], {}), 0)
        self.assertEqual(house.least({"a": -5}), 0)
        for wrong in ([0], [None], [[]]):
            self.assertEqual(told(house.cost, wrong, {}), ("InvalidPlan", 0))
            self.assertEqual(told(house.bound, wrong, {}), ("InvalidCertificate", 0))

    def test_nothing_is_tied(self):
        house = nested()
        self.check_untied(house, (house.finish, house.certificate), GOOD)
        house.finish(GOOD)[1].append(3)
        self.assertEqual(house.finish(GOOD), [[1], [[0], [], [0, 1]], [], [0]])
        self.check_untied(house, (lambda future: house.directions([0, None, None, 0]),), GOOD)
        house.directions([0, None, None, 0])[0].clear()
        self.assertEqual(sorted(house.directions([0, None, None, 0])[0]), list(house.gauges))


class Completions(unittest.TestCase):
    def test_each_index_of_a_wrong_completion(self):
        house = nested()
        good = [[3], [[0], [], [1, 0]], [], [2]]
        self.assertEqual(house.cost(good, GOOD), house.cost(((3,), ((0,), (), (1, 0)), (), (2,)), GOOD))
        for wrong in (None, 0, -HUGE):
            self.assertEqual(told(house.cost, wrong, GOOD), ("InvalidPlan", 0))
        for many in range(4):
            self.assertEqual(told(house.cost, good[:many], GOOD), ("InvalidPlan", many))
        for more in ([None], [[]], [[], 0]):
            self.assertEqual(told(house.cost, good + more, GOOD), ("InvalidPlan", 4))
        bad = {0: ([], [3, 3], [-1], None, 3, [[3]]), 2: ([0], [[]], 0, None), 3: ([], [None], [2, 2], 7),
               1: (None, [], 0, [[0], []], [[0], [], [1, 0], []], [[2], [], [1, 0]], [[], [], [1, 0]],
                   [[0], [0], [1, 0]], [[0], [], [1]], [[0], [], [1, 1]], [[0], None, [1, 0]], [[0], [], 3])}
        for at, rows in bad.items():
            for row in rows:
                worse = good[:at] + [row] + [None] * (3 - at)
                self.assertEqual(told(house.cost, worse, GOOD), ("InvalidPlan", at), worse)

    def test_each_index_of_a_wrong_certificate(self):
        house = nested()
        good = house.certificate(GOOD)
        self.assertEqual(house.bound(good, GOOD), house.least(GOOD))
        self.assertEqual(house.bound(tuple(good), GOOD), house.least(GOOD))
        for wrong in (None, 0, -HUGE):
            self.assertEqual(told(house.bound, wrong, GOOD), ("InvalidCertificate", 0))
        for many in range(4):
            self.assertEqual(told(house.bound, good[:many], GOOD), ("InvalidCertificate", many))
        self.assertEqual(told(house.bound, good + [[]], GOOD), ("InvalidCertificate", 4))
        bad = {0: (None, 0, [], [0, 0], [None], [HUGE]), 1: (None, 3, [], good[1][:2], good[1] + [[]],
                                                             [[9], [], good[1][2]], [good[1][0], [0], good[1][2]],
                                                             [good[1][0], [], [[1], [2]]]),
               2: ([], [1, 1, 5], None, [4, 1, 1]), 3: ([], [[0], []], 1, [[], [], []], [None, []])}
        for at, rows in bad.items():
            for row in rows:
                worse = good[:at] + [row] + [None] * (3 - at)
                self.assertEqual(told(house.bound, worse, GOOD), ("InvalidCertificate", at), worse)

    def test_worse_certificates_have_smaller_bounds(self):
        house = nested()
        good = house.certificate(GOOD)
        worse = [good[0], [[0, 0, 0, 0, 0], [], good[1][2]], [0, 0, 0], good[3]]
        self.assertEqual(house.bound(worse, GOOD), house.least(GOOD) - PLANS.least(GOOD) - DONE.least(GOOD))


class AgainstModels(unittest.TestCase):
    def test_costs_against_all_completions(self):
        dice = random.Random(200)
        done = 0
        while done < 60:
            house = random_house(dice, most=3)
            future = {gauge: dice.randint(1, 3) for gauge in house.gauges}
            if len([leaf for leaf in leaves_of(house) if not leaf.is_finished()]) > 2:
                continue
            rows = completions_of(house, 7)
            if len(rows) > 4000:
                continue
            done += 1
            costs = [house.cost(row, future) for row in rows]
            for row, cost in list(zip(rows, costs))[::17]:
                self.assertEqual(cost, sum(part.cost(own, future) for part, own in zip(house.parts, row)))
            least = house.least(future)
            self.assertLessEqual(least, min(costs))
            self.assertEqual(least, sum(part.least(future) for part in house.parts))
            finish = house.finish(future)
            self.assertEqual(finish, [part.finish(future) for part in house.parts])
            self.assertEqual(house.cost(finish, future), least)
            if finish in rows:
                self.assertEqual(least, min(costs))
            certificate = house.certificate(future)
            self.assertEqual([type(finish), type(certificate)], [list, list])
            self.assertEqual(house.bound(certificate, future), least)

    def test_regrets_are_the_sums_of_those_of_the_entries(self):
        dice = random.Random(201)
        for _ in range(150):
            house = open_house(dice)
            future = {gauge: dice.randint(1, 4) for gauge in house.gauges}
            decision = random_decision(dice, house)
            entries = [(part, entry) for part, entry in zip(house.parts, decision) if entry is not None]
            self.assertEqual(house.regret(decision, future), day_regret(house, decision, future))
            self.assertEqual(house.regret(decision, future), sum(part.regret(entry, future) for part, entry in entries))
            self.assertEqual(house.regret([None] * len(house.parts), future), 0)

    def directions_by_words(self, part, entry):
        if entry is None:
            return [{gauge: 1 for gauge in part.gauges}]
        if not isinstance(part, House):
            return part.directions(entry)
        rows = product(*[self.directions_by_words(*pair) for pair in zip(part.parts, entry)])
        return [{gauge: sign for signs in row for gauge, sign in signs.items()} for row in rows]

    def test_directions_in_their_order(self):
        dice = random.Random(202)
        most = 0
        for _ in range(150):
            house = open_house(dice)
            decision = random_decision(dice, house)
            found = house.directions(decision)
            most = max(most, len(found))
            self.assertEqual(found, self.directions_by_words(house, decision))
            self.assertEqual([list(signs) for signs in found], [list(house.gauges)] * len(found))
            self.assertEqual(found, house.directions(tuple(decision)))
        self.assertGreaterEqual(most, 4)

    def test_the_last_department_changes_first(self):
        house = House([ORDERS, PLANS, PROMISES])
        self.assertEqual([list(signs.values()) for signs in house.directions([0, 0, 0])],
                         [[-1, 1, -1, -1], [-1, 1, 1, -1], [-1, 1, -1, 1], [-1, 1, 1, 1]])
        self.assertEqual(list(house.directions([0, 0, 0])[0]), ["a", "b", "j", "w"])
        self.assertEqual([list(signs.values()) for signs in house.directions([0, None, None])],
                         [[1, 1, 1, -1], [1, 1, 1, 1]])
        inner = House([House([ORDERS, PROMISES]), WORKS])
        self.assertEqual([list(signs.values()) for signs in inner.directions([[0, 0], 1])],
                         [[-1, -1, -1, -1], [-1, 1, -1, -1], [-1, -1, -1, 1], [-1, 1, -1, 1]])
        self.assertEqual(inner.directions([None, None]), [{"h": 1, "j": 1, "v": 1, "w": 1}])
        self.assertEqual(inner.directions([[None, None], None]), [{"h": 1, "j": 1, "v": 1, "w": 1}])
        self.assertEqual(len(inner.directions([[None, 3], None])), 2)

    def test_the_greatest_regret_is_at_an_end(self):
        dice = random.Random(203)
        for _ in range(60):
            house = open_house(dice)
            own = kind_of(dice, house).onto(house.gauges)
            decision = random_decision(dice, house)
            greatest = max(day_regret(house, decision, future) for future in own_futures(house, own))
            corners = [future for signs in house.directions(decision) for future in ends(own, signs)]
            self.assertEqual(corners, [future for signs in house.directions(decision)
                                       for future in ends_by_words(own, signs)])
            self.assertEqual(max(house.regret(decision, future) for future in corners), greatest)

    def test_the_least_cost_does_not_fall(self):
        dice = random.Random(204)
        for _ in range(40):
            house = open_house(dice)
            future = {gauge: dice.randint(1, 4) for gauge in house.gauges}
            spent = house.least(future)
            while not house.is_finished():
                decision = random_decision(dice, house, 0.2)
                regret = house.regret(decision, future)
                house = house.after(decision)
                self.assertGreaterEqual(regret, 0)
                self.assertEqual(house.least(future), spent + regret)
                spent += regret


class GreatNumbers(unittest.TestCase):
    def test_great_numbers(self):
        house = House([Orders([("w", 3, BIG, 0, 1, BIG)], urgent=BIG), House([Plans(("one", ["a", "b"]))]),
                       Promises([1], [["j"]], fine=3), Works([[("h", BIG)], [(BIG, "v")]])])
        future = {"w": BIG, "a": BIG, "b": HUGE, "j": BIG, "h": BIG, "v": BIG}
        total = 3 * BIG + BIG + BIG * (BIG - 1) // 2 + 3 * BIG * BIG
        self.assertEqual(house.least(future), total)
        self.assertEqual(house.finish(future), [[BIG], [[0]], [BIG * (BIG - 1) // 2], [0, 1]])
        self.assertEqual(house.regret([HUGE, [1], None, None], future), 4 * (HUGE - BIG) + HUGE - BIG)
        self.assertEqual(house.bound(house.certificate(future), future), total)
        self.assertEqual(house.after([HUGE, None, HUGE, 1]).parts[2].placed, (HUGE,))

    def test_projections(self):
        kind = Kind(["b", "a"], [[(0, 1), (0, 3)]]) * menu("zz", [BIG])
        house = House([Plans(("one", ["a", 5])), Plans(("one", ["b", 5]))])
        self.assertEqual(len(own_futures(house, kind)), 8)


if __name__ == "__main__":
    unittest.main()

"""Points 36 to 38: rises."""

import random
import unittest
from itertools import combinations

from everyfuture.plans import Plans
from everyfuture.rises import later_costs, later_rises, now_choice, now_costs, raised_cost, worst_cost
from tests.brute import BIG, HUGE, told
from tests.test_plans import cost_by_words, outcomes, random_plans

EXAMPLE = Plans(("one", ["a", ("all", ["b", 2])]))
CALM, RISES = {"a": 5, "b": 3}, {"a": 4, "b": 2}


def risen_futures(plans, calm, rises, k):
    """Return pairs of a set of at most k gauges and the future in which it rises."""
    return [(chosen, {gauge: calm[gauge] + rises[gauge] * (gauge in chosen) for gauge in plans.gauges})
            for many in range(min(k, len(plans.gauges)) + 1) for chosen in combinations(plans.gauges, many)]


def worst_by_words(plans, left, calm, rises, k):
    return max(cost_by_words(left, future) for _, future in risen_futures(plans, calm, rises, k))


def random_case(dice):
    """Return small plans, some of them with placed decisions, with prices and rises that have other gauges, too."""
    while True:
        plans, _ = random_plans(dice)
        while not plans.is_finished() and dice.random() < 0.2:
            plans = plans.after(dice.choice(plans.choices()))
        if len(plans.gauges) <= 6:
            break
    calm = {"z": -1, **{gauge: dice.randint(0, 8) for gauge in plans.gauges}}
    rises = {"y": -1, **{gauge: dice.randint(0, 6) for gauge in plans.gauges}}
    return plans, calm, rises


class Costs(unittest.TestCase):
    def test_raised_costs(self):
        self.assertEqual([raised_cost(EXAMPLE, CALM, RISES, t) for t in (0, 1, 2, 3, 4, HUGE)], [7, 6, 5, 5, 5, 5])
        dice = random.Random(90)
        for _ in range(100):
            plans, calm, rises = random_case(dice)
            for t in (0, 1, 3, 6, 7):
                future = {gauge: calm[gauge] + max(0, rises[gauge] - t) for gauge in plans.gauges}
                self.assertEqual(raised_cost(plans, calm, rises, t), plans.least(future))

    def test_worst_costs_against_all_sets_of_gauges(self):
        dice = random.Random(91)
        for _ in range(60):
            plans, calm, rises = random_case(dice)
            for decisions, left in list(outcomes(plans.chosen()).items())[:12]:
                for k in (0, 1, 2, len(plans.gauges), HUGE):
                    worst = worst_by_words(plans, left, calm, rises, k)
                    self.assertEqual(worst_cost(plans, list(decisions), calm, rises, k), worst)
                    self.assertEqual(worst_cost(plans, decisions, calm, rises, k), worst)

    def test_later_and_now_costs_against_everything(self):
        dice = random.Random(92)
        for _ in range(80):
            plans, calm, rises = random_case(dice)
            many = len(plans.gauges)
            later = [max(plans.least(future) for _, future in risen_futures(plans, calm, rises, k))
                     for k in range(many + 1)]
            lefts = list(outcomes(plans.chosen()).values())
            now = [min(worst_by_words(plans, left, calm, rises, k) for left in lefts) for k in range(many + 1)]
            self.assertEqual(later_costs(plans, calm, rises), later)
            self.assertEqual(now_costs(plans, calm, rises), now)
            self.check_later_rises(plans, calm, rises, later)
            self.check_now_choices(plans, calm, rises, now)
            self.check_point_38(later, now)

    def check_later_rises(self, plans, calm, rises, later):
        for k in (*range(len(later) + 2), HUGE):
            chosen = later_rises(plans, calm, rises, k)
            self.assertIs(type(chosen), list)
            self.assertLessEqual(len(chosen), k)
            self.assertEqual(chosen, sorted(set(chosen) & set(plans.gauges)))
            future = {gauge: calm[gauge] + rises[gauge] * (gauge in chosen) for gauge in plans.gauges}
            self.assertEqual(plans.least(future), later[min(k, len(later) - 1)])

    def check_now_choices(self, plans, calm, rises, now):
        for k in (*range(len(now) + 2), HUGE):
            decisions = now_choice(plans, calm, rises, k)
            left = outcomes(plans.chosen())[tuple(decisions)]
            worst = worst_by_words(plans, left, calm, rises, k)
            self.assertEqual(worst, now[min(k, len(now) - 1)])
            self.assertEqual(worst_cost(plans, decisions, calm, rises, k), worst)

    def check_point_38(self, later, now):
        self.assertTrue(all(one <= two for one, two in zip(later, now)))
        self.assertEqual((later[0], later[-1]), (now[0], now[-1]))
        steps = [two - one for one, two in zip(now, now[1:])]
        self.assertEqual(steps, sorted(steps, reverse=True))

    def test_the_now_costs_are_made_as_point_38_says(self):
        dice = random.Random(93)
        for _ in range(40):
            plans, calm, rises = random_case(dice)
            thresholds = [0, *[rises[gauge] for gauge in plans.gauges]]
            self.assertEqual(now_costs(plans, calm, rises),
                             [min(k * t + raised_cost(plans, calm, rises, t) for t in thresholds)
                              for k in range(len(plans.gauges) + 1)])

    def test_the_example_of_point_80(self):
        self.assertEqual(worst_cost(EXAMPLE, [1], CALM, RISES, 1), 5 + 2)
        self.assertEqual(now_choice(EXAMPLE, CALM, RISES, 1), [1])
        self.assertEqual(later_costs(EXAMPLE, CALM, RISES)[1], 5)

    def test_plans_without_gauges_or_decisions(self):
        for plans in (Plans(7), Plans(("all", [3, 4])), Plans(("one", [9, 7, 8]))):
            self.assertEqual((later_costs(plans, {}, {}), now_costs(plans, {}, {})), ([7], [7]))
            self.assertEqual((later_rises(plans, {}, {}, 3), now_choice(plans, {}, {}, 3)), ([], plans.finish({})))
        finished = EXAMPLE.after(1)
        self.assertEqual((later_costs(finished, CALM, RISES), now_costs(finished, CALM, RISES)), ([5, 7], [5, 7]))
        self.assertEqual((later_rises(finished, CALM, RISES, 1), now_choice(finished, CALM, RISES, 1)), (["b"], []))
        self.assertEqual(worst_cost(finished, [], CALM, RISES, 1), 7)
        self.assertEqual((later_costs(Plans(("all", [])), {}, {}), now_costs(Plans(("all", [])), {}, {})), ([0], [0]))


class Errors(unittest.TestCase):
    def calls(self, plans, k=1, threshold=1, decisions=(0,)):
        """Return all functions of the module, with good other arguments."""
        return [lambda calm, rises: raised_cost(plans, calm, rises, threshold),
                lambda calm, rises: worst_cost(plans, decisions, calm, rises, k),
                lambda calm, rises: later_costs(plans, calm, rises), lambda calm, rises: now_costs(plans, calm, rises),
                lambda calm, rises: later_rises(plans, calm, rises, k),
                lambda calm, rises: now_choice(plans, calm, rises, k)]

    def test_prices_and_rises(self):
        good = {"a": 0, "b": 0, "z": -9}
        for call in self.calls(EXAMPLE, k=-1, threshold=-1)[:2] + self.calls(EXAMPLE, k=-1)[2:]:
            self.assertEqual(told(call, {"z": 1}, {}), ("MissingGauge", "a"))
            self.assertEqual(told(call, {"a": -1}, {}), ("MissingGauge", "b"))
            self.assertEqual(told(call, {"a": -1, "b": -1}, {}), ("OutOfRange", "a"))
            self.assertEqual(told(call, {"a": 0, "b": -HUGE}, {}), ("OutOfRange", "b"))
            self.assertEqual(told(call, good, {"b": -1}), ("MissingGauge", "a"))
            self.assertEqual(told(call, good, {"a": -1}), ("MissingGauge", "b"))
            self.assertEqual(told(call, good, {"a": -1, "b": -1}), ("OutOfRange", "a"))
            self.assertEqual(told(call, good, {"a": 0, "b": -1}), ("OutOfRange", "b"))
        for call in self.calls(EXAMPLE):
            self.assertIsNone(told(call, good, good))

    def test_numbers_below_0_come_last(self):
        good = {"a": 0, "b": 0}
        for number in (-1, -HUGE):
            calls = self.calls(EXAMPLE, k=number, threshold=number)
            for call in calls[:2] + calls[4:]:
                self.assertEqual(told(call, good, good), ("InvalidAmount", number))
        for call in self.calls(EXAMPLE, k=0, threshold=0):
            self.assertIsNone(told(call, good, good))

    def test_a_list_that_is_no_completion_comes_first(self):
        for decisions, index in (([], 0), ([2], 0), ([0, 0], 1), ([None], 0), (None, 0), (7, 0), ([[0]], 0)):
            self.assertEqual(told(worst_cost, EXAMPLE, decisions, {}, {}, -1), ("InvalidPlan", index))
        self.assertEqual(told(worst_cost, Plans(("one", [("one", [1])])), [0], {}, {}, -1), ("InvalidPlan", 1))

    def test_gauges_that_decisions_have_removed(self):
        after = EXAMPLE.after(0)
        self.assertEqual(later_costs(after, {"a": 5}, {"a": 4, "b": -7}), [5, 9])
        self.assertEqual(told(later_costs, after, {"b": 5}, {"a": 4}), ("MissingGauge", "a"))


class Great(unittest.TestCase):
    def test_great_numbers(self):
        calm, rises = {"a": BIG, "b": HUGE}, {"a": HUGE, "b": 10 * HUGE}
        self.assertEqual(later_costs(EXAMPLE, calm, rises), [BIG, HUGE + 2, BIG + HUGE])
        self.assertEqual(now_costs(EXAMPLE, calm, rises), [BIG, BIG + HUGE, BIG + HUGE])
        self.assertEqual(worst_cost(EXAMPLE, [1], calm, rises, HUGE), 11 * HUGE + 2)
        self.assertEqual(raised_cost(EXAMPLE, calm, rises, HUGE - 5), BIG + 5)

    def test_twenty_four_gauges(self):
        names = [f"g{at}" for at in range(24)]
        plans = Plans(("all", [("one", names[at:at + 2]) for at in range(0, 24, 2)]))
        calm = {name: BIG + 7 * at % 10 for at, name in enumerate(names)}
        rises = {name: BIG // 3 + 11 * at % 13 for at, name in enumerate(names)}
        later, now = later_costs(plans, calm, rises), now_costs(plans, calm, rises)
        self.assertEqual((len(later), later[0], later[24]), (25, now[0], now[24]))
        for k in range(25):
            chosen = later_rises(plans, calm, rises, k)
            future = {name: calm[name] + rises[name] * (name in chosen) for name in names}
            self.assertEqual((plans.least(future), len(chosen) <= k), (later[k], True))
            self.assertEqual(worst_cost(plans, now_choice(plans, calm, rises, k), calm, rises, k), now[k])

    def test_nothing_is_tied(self):
        calm, rises = dict(CALM), dict(RISES)
        calls = (lambda: later_costs(EXAMPLE, calm, rises), lambda: now_costs(EXAMPLE, calm, rises),
                 lambda: later_rises(EXAMPLE, calm, rises, 2), lambda: now_choice(EXAMPLE, calm, rises, 1))
        for call in calls:
            before = list(call())
            call().append(3)
            self.assertEqual(call(), before)
        self.assertEqual((list(calm.items()), list(rises.items())), (list(CALM.items()), list(RISES.items())))


if __name__ == "__main__":
    unittest.main()

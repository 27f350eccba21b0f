"""Points 44, 50 and 51: keeping promises."""

import random
import unittest

from everyfuture.keeping import breach, least_limit, shortfall
from everyfuture.kinds import Kind, single
from everyfuture.promises import Promises
from tests.brute import BIG, HUGE, ends_by_words, futures_of, small_kind, told
from tests.test_promises import random_promises, short_group, shortfall_by_words, totals_of

TWO = Promises([1, 2], [["a", "b"], [1, "c"]], fine=5)


def random_case(dice, classes=(1, 2, 2, 3, 4)):
    """Return small promises with one to four gauges and a kind for them that has one gauge more."""
    while True:
        promises, _ = random_promises(dice, classes=classes)
        if 1 <= len(promises.gauges) <= 4:
            return promises, small_kind(dice, [*promises.gauges, "zz"], 3, 80)


def last_ends(promises, kind):
    """Return the ends of the kind of the promises in their second direction."""
    return ends_by_words(kind.onto(promises.gauges), {gauge: 1 for gauge in promises.gauges})


class Shortfalls(unittest.TestCase):
    def test_plain_limits(self):
        promises = Promises([1, 1], [["a", "b"]], fine=1)
        future = {"a": 3, "b": 2}
        for limits, found in (([], (0, [])), ([2], (1, [0])), ([3], (0, [])), ([HUGE], (0, [])), ([0, 0], (10, [0, 1])),
                              ([3, 6], (1, [0, 1])), ([3, 7], (0, [])), ([2, 8], (1, [0])), ([2, 6], (2, [0, 1])),
                              ([2, 7], (1, [0])), ([9, 0], (1, [1])), ([8, 0], (2, [0, 1])), ([HUGE, 0], (1, [1]))):
            self.assertEqual(shortfall(promises, limits, future), found)
            self.assertEqual(shortfall(promises, tuple(limits), future), found)

    def test_against_all_groups(self):
        dice = random.Random(140)
        for _ in range(300):
            promises, future = random_promises(dice, classes=(1, 2, 3, 4))
            totals = totals_of(promises, future)
            limits = [dice.randint(0, 6) for _ in range(dice.randint(0, len(promises.rates)))]
            found = shortfall(promises, limits, future)
            self.assertEqual(found, (shortfall_by_words(totals, limits), short_group(totals, limits)))
            self.assertEqual((type(found), type(found[1])), (tuple, list))

    def test_placed_limits_are_not_used(self):
        placed = Promises([1, 1], [["a", "b"]], fine=1, placed=[0, 0])
        self.assertEqual(shortfall(placed, [3], {"a": 3, "b": 2}), (0, []))
        self.assertIsNone(breach(placed, [3, 7], single({"a": 3, "b": 2})))
        self.assertIsNone(breach(placed, [], single({"a": 3, "b": 2})))

    def test_great_numbers(self):
        promises = Promises([1], [["a"]], fine=1)
        self.assertEqual(shortfall(promises, [5], {"a": HUGE}), (HUGE * (HUGE - 1) // 2 - 5, [0]))
        self.assertEqual(shortfall(promises, [HUGE * (HUGE - 1) // 2], {"a": HUGE}), (0, []))


class Breaches(unittest.TestCase):
    def test_against_all_futures(self):
        dice = random.Random(141)
        found_some = found_none = 0
        for _ in range(120):
            promises, kind = random_case(dice)
            limits = [dice.randint(0, 12) for _ in range(dice.randint(0, len(promises.rates)))]
            held = all(shortfall_by_words(totals_of(promises, future), limits) == 0 for future in futures_of(kind))
            found = breach(promises, limits, kind)
            self.assertEqual(found is None, held)
            if held:
                found_none += 1
                continue
            found_some += 1
            broken = [future for future in last_ends(promises, kind)
                      if shortfall_by_words(totals_of(promises, future), limits) > 0]
            self.assertEqual(found, (broken[0], short_group(totals_of(promises, broken[0]), limits)))
            self.assertEqual((type(found), list(found[0])), (tuple, list(promises.gauges)))
        self.assertGreater(min(found_some, found_none), 25)

    def test_the_first_end_and_not_the_one_with_the_greatest_shortfall(self):
        kind = Kind(["a", "b", "c"], [[(0, 1), (4, 5), (0, 0)], [(9, 9), (0, 0), (0, 0)], [(7, 7), (0, 1), (0, 0)]])
        self.assertEqual(breach(TWO, [3, 0], kind), ({"a": 1, "b": 5, "c": 0}, [0, 1]))
        self.assertEqual(breach(TWO, [20, 0], kind), ({"a": 1, "b": 5, "c": 0}, [1]))
        self.assertEqual(breach(TWO, [3, 20], kind), ({"a": 7, "b": 1, "c": 0}, [0]))
        self.assertEqual(breach(TWO, [27, 20], kind), ({"a": 9, "b": 0, "c": 0}, [0]))

    def test_gauges_of_all_classes_count_for_the_ends(self):
        kind = Kind(["a", "b", "c"], [[(5, 5), (0, 0), (0, 0)], [(3, 3), (1, 1), (0, 0)]])
        self.assertEqual(breach(TWO, [0], kind), ({"a": 3, "b": 1, "c": 0}, [0]))

    def test_promises_without_gauges(self):
        promises = Promises([1], [[3]], fine=1)
        self.assertEqual(breach(promises, [2], Kind([], [[]])), ({}, [0]))
        self.assertIsNone(breach(promises, [3], Kind(["z"], [[(0, 9)]])))


class LeastLimits(unittest.TestCase):
    def test_against_all_futures(self):
        dice = random.Random(142)
        found = refused = 0
        for _ in range(200):
            promises, kind = random_case(dice)
            while len(promises.placed) < len(promises.rates) - 1 and dice.random() < 0.6:
                promises = promises.after(dice.choice((0, 1, 4, 15, 30)))
            kept = breach(promises, promises.placed, kind)
            if kept is not None:
                refused += 1
                self.assertEqual(told(least_limit, promises, kind), ("NotKept", *kept))
                continue
            found += 1
            self.check_least_limit(promises, kind)
        self.assertGreater(min(found, refused), 25)

    def check_least_limit(self, promises, kind):
        own, placed = len(promises.placed), promises.placed
        limit, future, group = least_limit(promises, kind)
        totals = [totals_of(promises, one) for one in futures_of(kind)]
        self.assertTrue(all(shortfall_by_words(row, (*placed, limit)) == 0 for row in totals))
        if limit > 0:
            self.assertTrue(any(shortfall_by_words(row, (*placed, limit - 1)) > 0 for row in totals))
        needs = [promises.needs(end)[0] for end in last_ends(promises, kind)]
        self.assertEqual(limit, max(needs))
        self.assertEqual(future, last_ends(promises, kind)[needs.index(limit)])
        self.assertEqual(list(future), list(promises.gauges))
        there = totals_of(promises, future)
        tight = [row for row in there if own in row and max(row) == own
                 and there[row] - sum(placed[at] for at in row[:-1]) == limit]
        self.assertEqual(group, sorted(set.intersection(*map(set, tight))))
        self.assertIn(tuple(group), tight)

    def test_the_first_end_with_the_greatest_need(self):
        kind = Kind(["a", "b", "c"], [[(2, 2), (5, 5), (0, 0)], [(4, 4), (0, 3), (0, 0)], [(4, 4), (0, 0), (2, 2)]])
        self.assertEqual(least_limit(TWO, kind), (3 + 3 + 2 + 1, {"a": 4, "b": 0, "c": 2}, [0]))
        self.assertEqual(least_limit(TWO.after(9), kind), (27 - 9, {"a": 2, "b": 5, "c": 0}, [0, 1]))
        self.assertEqual(least_limit(TWO.after(40), kind), (10, {"a": 2, "b": 5, "c": 0}, [1]))

    def test_a_limit_of_0(self):
        self.assertEqual(least_limit(TWO, single({"a": 0, "b": 3, "c": 0})), (0, {"a": 0, "b": 3, "c": 0}, [0]))

    def test_great_numbers(self):
        promises = Promises([1, 1], [["a", "b"]], fine=1, placed=[BIG * BIG])
        kind = Kind(["a", "b"], [[(0, BIG), (0, 5)], [(0, 7), (0, BIG)]])
        limit, future, group = least_limit(promises, kind)
        self.assertEqual((limit, future, group), (BIG * (BIG - 1) // 2, {"a": 7, "b": BIG}, [1]))
        self.assertIsNone(breach(promises, [BIG * BIG, limit], kind))
        self.assertEqual(breach(promises, [BIG * BIG, limit - 1], kind), ({"a": 7, "b": BIG}, [1]))


class Errors(unittest.TestCase):
    def test_limits(self):
        kind = Kind([], [[]])
        for call in (lambda limits: shortfall(TWO, limits, {}), lambda limits: breach(TWO, limits, kind)):
            self.assertEqual(told(call, [1, -1, 0]), ("InvalidPlan", 2))
            self.assertEqual(told(call, (0,) * 5), ("InvalidPlan", 2))
            self.assertEqual(told(call, [3, -1]), ("InvalidAmount", -1))
            self.assertEqual(told(call, [-HUGE, -1]), ("InvalidAmount", -HUGE))
            for limits in ([], [0], [0, 0], (HUGE, 3)):
                self.assertEqual(told(call, limits), ("MissingGauge", "a"))

    def test_futures(self):
        self.assertEqual(told(shortfall, TWO, [], {"a": -1, "b": 0}), ("MissingGauge", "c"))
        self.assertEqual(told(shortfall, TWO, [], {"a": 0, "b": -1, "c": -1}), ("OutOfRange", "b"))

    def test_kinds(self):
        kind = Kind(["a", "c", "z"], [[(0, 0), (0, 1), (0, 0)]])
        self.assertEqual(told(breach, TWO, [0], kind), ("MissingGauge", "b"))
        self.assertEqual(told(least_limit, TWO, kind), ("MissingGauge", "b"))

    def test_the_errors_of_least_limit(self):
        kind = single({"a": 3, "b": 0, "c": 0})
        finished = TWO.after(0).after(0)
        self.assertEqual(told(least_limit, finished, Kind([], [[]])), ("NothingOpen",))
        self.assertEqual(told(least_limit, TWO.after(0), Kind([], [[]])), ("MissingGauge", "a"))
        self.assertEqual(told(least_limit, TWO.after(4), kind), ("NotKept", {"a": 3, "b": 0, "c": 0}, [0]))
        self.assertEqual(least_limit(TWO.after(5), kind), (0, {"a": 3, "b": 0, "c": 0}, [1]))

    def test_nothing_is_tied(self):
        limits, kind = [0, 0], single({"a": 3, "b": 0, "c": 0})
        future, group = breach(TWO, limits, kind)
        future["a"] = 9
        group.append(7)
        self.assertEqual((limits, breach(TWO, limits, kind)), ([0, 0], ({"a": 3, "b": 0, "c": 0}, [0])))
        _, future, group = least_limit(TWO, kind)
        future["a"] = 9
        group.append(7)
        self.assertEqual(least_limit(TWO, kind), (5, {"a": 3, "b": 0, "c": 0}, [0]))


if __name__ == "__main__":
    unittest.main()

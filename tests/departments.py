"""Checks that are alike for all departments; the tests of the departments mix them in."""

from tests.brute import HUGE, told

# Decisions and certificates may be any integers, None, and nested lists of these.
WRONG_FORMS = (-1, -HUGE, None, [], [0], [None], [[0], [[]]], [0, None, [1]])


class DepartmentChecks:
    def check_three_methods(self, department, finished, decision, bad, gauge):
        """Check the errors of `after`, `directions` and `regret`; the department has the gauge."""
        calls = (lambda part, decision: part.after(decision), lambda part, decision: part.directions(decision),
                 lambda part, decision: part.regret(decision, {}))
        for call in calls:
            for wrong in (decision, *bad):
                self.assertEqual(told(call, finished, wrong), ("NothingOpen",))
            for wrong in bad:
                self.assertEqual(told(call, department, wrong), ("InvalidDecision", wrong))
            self.assertEqual(told(call, department, (1, (2, None))), ("InvalidDecision", [1, [2, None]]))
        self.assertEqual(told(department.regret, decision, {}), ("MissingGauge", gauge))

    def check_futures(self, department, calls, good):
        """Check the errors of point 8 for all calls that take a future; the good future has the least values."""
        gauges = sorted(good)
        self.assertEqual(department.gauges, tuple(gauges))
        for call in calls:
            self.assertIsNone(told(call, good))
            self.assertIsNone(told(call, {**good, "zz": -5}))
            for at, gauge in enumerate(gauges):
                lacking = {name: good[name] - 1 for name in gauges[:at] + gauges[at + 2:]}
                self.assertEqual(told(call, lacking), ("MissingGauge", gauge))
                low = {name: good[name] - (HUGE if name == gauge else 1) for name in gauges[at:]}
                low.update({name: good[name] for name in gauges[:at]})
                self.assertEqual(told(call, low), ("OutOfRange", gauge))

    def check_untied(self, department, calls, future):
        """Check that the calls give new lists each time and leave the future as it is."""
        before = list(future.items())
        for call in calls:
            first = call(future)
            kept = repr(first)
            first.append(5)
            self.assertEqual(repr(call(future)), kept)
        self.assertEqual(list(future.items()), before)

    def check_all_choices(self, department, future, costs):
        """Check a choice department against the costs of all its completions, a dict with tuples as keys."""
        least = min(costs.values())
        self.assertEqual(department.least(future), least)
        self.assertEqual(department.cost(department.finish(future), future), least)
        if () in costs:
            self.assertIs(department.is_finished(), True)
            self.assertEqual(department.finish(future), [])
            return
        self.assertIs(department.is_finished(), False)
        first = {}
        for decisions, cost in costs.items():
            first[decisions[0]] = min(cost, first.get(decisions[0], cost))
        best = [decision for decision in sorted(first) if first[decision] == least]
        self.assertEqual(department.finish(future)[0], best[0])
        self.assertEqual([decision for decision in range(30) if department.allows(decision)], sorted(first))
        for decision, cost in first.items():
            self.assertEqual(department.regret(decision, future), cost - least)
            self.assertEqual(department.after(decision).least(future), cost)
        for limit in (-1, 0, 1, 3, 8, HUGE):
            fine = [decision for decision in sorted(first) if first[decision] - least <= limit]
            stretches = department.level(future, limit)
            self.assertEqual([x for low, high in stretches for x in range(low, high + 1)], fine)
            self.assertTrue(all(one[1] + 1 < two[0] for one, two in zip(stretches, stretches[1:])))

    def check_direction(self, dice, department, decision, top):
        """Check that the regret never falls in the direction, and return how many pairs of futures were looked at."""
        signs = department.directions(decision)
        self.assertEqual(len(signs), 1)
        self.assertEqual(list(signs[0]), list(department.gauges))
        pairs = 0
        for _ in range(8):
            near = {gauge: dice.randint(1, top) for gauge in department.gauges}
            far = {gauge: near[gauge] + dice.randint(0, 3) * signs[0][gauge] for gauge in department.gauges}
            if min(far.values(), default=1) > 0:
                pairs += 1
                self.assertLessEqual(department.regret(decision, near), department.regret(decision, far))
        return pairs

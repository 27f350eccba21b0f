"""Points 8, 17 to 20, 22, 39 to 42 and 51: works."""

import random
import unittest
from fractions import Fraction
from functools import cmp_to_key
from itertools import product

from everyfuture.ends import ends
from everyfuture.kinds import Kind, single
from everyfuture.works import Works, lead_span
from tests.brute import BIG, HUGE, futures_of, random_boxes, told
from tests.departments import WRONG_FORMS, DepartmentChecks
from tests.test_sections import sections_by_words

SMALL = [[("h", 2), (3, "b")], [], [("c", "a")]]


def value(reading, future):
    return future[reading] if isinstance(reading, str) else reading


def cost_by_words(works, decisions, future):
    """Return the cost of the placed steps and these ones, each at the hour at which it ends."""
    steps = [iter(project) for project in works.projects]
    hour = total = 0
    for decision in (*works.placed, *decisions):
        hours, worth = next(steps[decision])
        hour += value(hours, future)
        total += value(worth, future) * hour
    return total


def steps_to_go(works):
    return [project[works.placed.count(at):] for at, project in enumerate(works.projects)]


def orders_of(left):
    """Return all orders of so many steps of each project, as tuples."""
    rows = [(at, *rest) for at, many in enumerate(left) if many
            for rest in orders_of([count - (at == place) for place, count in enumerate(left)])]
    return rows or [()]


def completions_of(works):
    return orders_of([len(steps) for steps in steps_to_go(works)])


def costs_of(works, future):
    return {row: cost_by_words(works, row, future) for row in completions_of(works)}


def random_works(dice, lengths=(0, 1, 1, 2, 3), most=3, share=0.6):
    """Return small works with up to so many projects, and a future for them."""
    names = [f"{letter}{at}" for letter in "ab" for at in range(12)]
    dice.shuffle(names)
    future = {"z": -5}
    projects = []
    for _ in range(dice.randint(0, most)):
        steps = []
        for _ in range(dice.choice(lengths)):
            step = [dice.randint(1, 4), dice.randint(0, 4)]
            for at in (0, 1):
                if dice.random() < share:
                    name = names.pop()
                    future[name] = step[at]
                    step[at] = name
            steps.append(tuple(step))
        projects.append(steps)
    return Works(projects), future


def lead_by_words(works, project, future):
    steps = [(value(hours, future), value(worth, future)) for hours, worth in steps_to_go(works)[project]]
    if not steps:
        return None
    _, _, worth, hours = sections_by_words(steps)[0]
    ratio = Fraction(worth, hours)
    return ratio.numerator, ratio.denominator


class Creation(unittest.TestCase):
    def test_attributes(self):
        works = Works([[("d", "c"), (1, 0)], (), [["b", "a"]]], placed=[2, 0])
        self.assertEqual(works.projects, ((("d", "c"), (1, 0)), (), (("b", "a"),)))
        self.assertEqual((works.placed, works.gauges, works.hour_gauges), ((2, 0), ("a", "b", "c", "d"), ("b", "d")))
        bare = Works(())
        self.assertEqual((bare.projects, bare.placed, bare.gauges, bare.hour_gauges), ((), (), (), ()))
        self.assertEqual(repr(works.projects), "((('d', 'c'), (1, 0)), (), (('b', 'a'),))")

    def test_the_first_wrong_step(self):
        for bad in ((0, 2), (-1, 2), (-HUGE, 2), (1, -1), ("A", 2), (1, ""), ("abcdefghi", 2), (1, "a\n"), ("1a", 0)):
            self.assertEqual(told(Works, [[(1, 0)], [], [(1, 1), bad, (0, 0)], [(0, 0)]]), ("InvalidStep", 2, 1), bad)
            self.assertEqual(told(Works, [[bad]]), ("InvalidStep", 0, 0), bad)
        self.assertIsNone(told(Works, [[(1, 0), ("a", "b")], [(HUGE, HUGE)], []]))

    def test_the_first_gauge_that_is_read_again(self):
        self.assertEqual(told(Works, [[("a", "a")]]), ("SharedGauge", "a"))
        projects = [[("b", "c"), (1, "d")], [(1, 1), ("e", "d")], [("c", "b")]]
        self.assertEqual(told(Works, projects), ("SharedGauge", "d"))
        self.assertEqual(told(Works, [[("b", "c")], [("c", "b")]]), ("SharedGauge", "c"))

    def test_the_order_of_errors(self):
        self.assertEqual(told(Works, [[("a", "a")], [(0, 1)]], placed=[5]), ("InvalidStep", 1, 0))
        self.assertEqual(told(Works, [[("a", "a")]], placed=[5]), ("SharedGauge", "a"))
        self.assertEqual(told(Works, [[("a", "b")]], placed=[5]), ("InvalidPlan", 0))

    def test_placed_decisions_that_cannot_be_placed(self):
        for bad in (*WRONG_FORMS, 1, 3, HUGE):
            self.assertEqual(told(Works, SMALL, placed=[0, bad, bad]), ("InvalidPlan", 1), bad)
        self.assertEqual(told(Works, SMALL, placed=[2, 2]), ("InvalidPlan", 1))
        self.assertEqual(told(Works, SMALL, placed=[0, 2, 0, 0]), ("InvalidPlan", 3))
        self.assertEqual(told(Works, [], placed=[0]), ("InvalidPlan", 0))
        self.assertEqual(Works(SMALL, placed=(0, 2, 0)).placed, (0, 2, 0))

    def test_nothing_is_tied(self):
        step, placed = ["a", "b"], [0]
        steps = [step, (1, 1)]
        projects = [steps]
        works = Works(projects, placed=placed)
        step[0] = "c"
        steps.append((1, 1))
        projects.append([])
        placed.append(0)
        self.assertEqual((works.projects, works.placed), (((("a", "b"), (1, 1)),), (0,)))


class Placing(unittest.TestCase, DepartmentChecks):
    def test_decisions_of_the_right_form(self):
        works = Works(SMALL)
        self.assertEqual([works.allows(decision) for decision in range(4)], [True, False, True, False])
        for decision in (*WRONG_FORMS, 3, HUGE, (), (0,)):
            self.assertIs(works.allows(decision), False, decision)
            self.assertIs(Works([[], []]).allows(decision), False, decision)

    def test_placing_one_after_another(self):
        parts = [Works(SMALL)]
        for decision in (0, 2, 0):
            parts.append(parts[-1].after(decision))
        self.assertEqual([part.placed for part in parts], [(), (0,), (0, 2), (0, 2, 0)])
        self.assertEqual([part.is_finished() for part in parts], [False, False, False, True])
        self.assertEqual([[part.allows(at) for at in range(3)] for part in parts],
                         [[True, False, True], [True, False, True], [True, False, False], [False] * 3])
        for part in parts:
            self.assertIs(type(part), Works)
            self.assertEqual((part.projects, part.gauges, part.hour_gauges),
                             (parts[0].projects, ("a", "b", "c", "h"), ("c", "h")))
        self.assertEqual((Works([]).is_finished(), Works([[], []]).is_finished()), (True, True))

    def test_errors_of_the_three_methods(self):
        works = Works(SMALL)
        finished = Works(SMALL, placed=[0, 0, 2])
        self.check_three_methods(works, finished, 0, (*WRONG_FORMS, 1, 3, HUGE), "a")


class Futures(unittest.TestCase, DepartmentChecks):
    def test_missing_gauges_come_before_values_and_hours_are_at_least_1(self):
        for placed in ([], [0], [2, 0], [0, 0, 2]):
            works = Works(SMALL, placed=placed)
            good = {"a": 0, "b": 0, "c": 1, "h": 1}
            completion, certificate = works.finish(good), works.certificate(good)
            calls = [works.least, works.finish, works.certificate, lambda future: works.cost(completion, future),
                     lambda future: works.bound(certificate, future), lambda future: works.lead(0, future),
                     lambda future: works.lead(1, future)]
            if completion:
                decision = completion[0]
                calls += [lambda future: works.regret(decision, future), lambda future: works.level(future, -1),
                          lambda future: works.level(future, 0)]
            self.check_futures(works, calls, good)

    def test_errors_before_those_of_the_future(self):
        works = Works([[("a", 2)]])
        self.assertEqual(told(works.after(0).level, {}, 0), ("NothingOpen",))
        self.assertEqual(told(works.cost, [], {}), ("InvalidPlan", 0))
        self.assertEqual(told(works.cost, [0, 0], {}), ("InvalidPlan", 1))
        self.assertEqual(told(works.bound, None, {}), ("MissingGauge", "a"))
        self.assertEqual(told(works.bound, None, {"a": 0}), ("OutOfRange", "a"))
        self.assertEqual(told(works.bound, None, {"a": 1}), ("InvalidCertificate", 0))
        for project in (*WRONG_FORMS, 1, HUGE):
            if project != 0:
                self.assertEqual(told(works.lead, project, {}), ("InvalidDecision", project))
        self.assertEqual(told(works.lead, (0, (1,)), {}), ("InvalidDecision", [0, [1]]))
        self.assertEqual(told(works.lead, 0, {}), ("MissingGauge", "a"))

    def test_passed_futures_and_returned_lists_are_not_tied(self):
        works, future = Works(SMALL), {"h": 2, "c": 1, "b": 5, "a": 3, "z": 0}
        calls = (works.finish, works.certificate, lambda told: works.level(told, HUGE), lambda _: works.directions(0))
        self.check_untied(works, calls, future)
        works.certificate(future)[0].append(9)
        works.directions(0)[0]["a"] = 7
        self.assertEqual(works.directions(0), [{"a": 1, "b": -1, "c": -1, "h": 1}])
        self.assertEqual(works.certificate(future), [[2], [], [1]])


class Costs(unittest.TestCase, DepartmentChecks):
    def test_costs_of_completions(self):
        dice = random.Random(110)
        for _ in range(60):
            works, future = random_works(dice)
            for row in completions_of(works)[::5]:
                self.assertEqual(works.cost(list(row), future), cost_by_words(works, row, future))
                self.assertEqual(works.cost(row, future), cost_by_words(works, row, future))
                if row:
                    self.assertEqual(works.after(row[0]).cost(row[1:], future), cost_by_words(works, row, future))

    def test_lists_that_are_no_completion(self):
        works = Works([[(1, 2), (3, 4), (5, 6)], [], [(7, 8)]], placed=[0])
        for decisions, index in (([], 0), ([0], 1), ([0, 0], 2), ([0, 2, 0, 0], 3), ([2, 2], 1), ([1, None], 0),
                                 ([0, None, 7], 1), ([0, [0]], 1), ([3], 0), ([-1], 0), (None, 0), (3, 0), (-2, 0),
                                 ((0, 0, 0), 2), ([2, 0, HUGE], 2)):
            self.assertEqual(told(works.cost, decisions, {}), ("InvalidPlan", index), decisions)
        self.assertEqual(works.cost([0, 2, 0], {}), 1 * 2 + 4 * 4 + 11 * 8 + 16 * 6)
        self.assertEqual(told(Works([]).cost, [0], {}), ("InvalidPlan", 0))
        self.assertEqual(told(Works([]).cost, None, {}), ("InvalidPlan", 0))
        self.assertEqual(Works([[]]).cost([], {}), 0)

    def test_least_costs_and_more_against_all_orders(self):
        dice = random.Random(111)
        for _ in range(150):
            works, future = random_works(dice)
            while True:
                costs = costs_of(works, future)
                self.check_all_choices(works, future, costs)
                least = min(costs.values())
                self.assertEqual(tuple(works.finish(future)), min(row for row in costs if costs[row] == least))
                self.check_leads(works, future)
                if works.is_finished():
                    break
                works = works.after(dice.choice([row[0] for row in costs]))

    def check_leads(self, works, future):
        """Check the leads, and that the best decisions are the projects with the greatest one, as point 41 says."""
        leads = [works.lead(project, future) for project in range(len(works.projects))]
        self.assertEqual(leads, [lead_by_words(works, project, future) for project in range(len(works.projects))])
        found = [Fraction(*lead) for lead in leads if lead is not None]
        best = [at for at, lead in enumerate(leads) if lead is not None and Fraction(*lead) == max(found)]
        if found:
            self.assertEqual([x for low, high in works.level(future, 0) for x in range(low, high + 1)], best)

    def test_ties(self):
        works = Works([[(1, 1), (2, 2)], [(2, 2)], [(3, 1)], [(4, 4)]])
        self.assertEqual(works.level({}, 0), [(0, 1), (3, 3)])
        self.assertEqual(works.finish({}), [0, 0, 1, 3, 2])
        self.assertEqual(works.after(1).finish({}), [0, 0, 3, 2])
        self.assertEqual([works.lead(at, {}) for at in range(4)], [(1, 1), (1, 1), (1, 3), (1, 1)])
        nothing = Works([[(2, 0)], [(5, 0)], []])
        self.assertEqual((nothing.level({}, 0), nothing.finish({}), nothing.lead(0, {}), nothing.lead(2, {})),
                         ([(0, 1)], [0, 1], (0, 1), None))

    def test_a_worthless_step_before_a_great_one(self):
        works = Works([[(1, 0), (3, "w")], [(2, 1)]])
        self.assertEqual([works.lead(0, {"w": w}) for w in (0, 1, 2, 4)], [(0, 1), (1, 4), (1, 2), (1, 1)])
        self.assertEqual([works.finish({"w": w}) for w in (1, 2, 3)], [[1, 0, 0], [0, 0, 1], [0, 0, 1]])
        self.assertEqual([works.regret(0, {"w": w}) for w in (0, 1, 2, 3)], [1, 1, 0, 0])
        self.assertEqual([works.regret(1, {"w": w}) for w in (1, 2, 3)], [0, 0, 2])


class Leads(unittest.TestCase):
    def test_spans_against_all_futures(self):
        dice = random.Random(112)
        looked = 0
        while looked < 60:
            works, _ = random_works(dice, share=0.4)
            if not 1 <= len(works.gauges) <= 4:
                continue
            while not works.is_finished() and dice.random() < 0.3:
                works = works.after(dice.choice(works.choices()))
            looked += 1
            boxes = [[(low + 1, high + 1) for low, high in box]
                     for box in random_boxes(dice, len(works.gauges) + 1, 3, 3)]
            kind = Kind(["zz", *works.gauges], boxes)
            for project in range(len(works.projects)):
                self.check_span(works, project, kind)

    def check_span(self, works, project, kind):
        leads = [lead_by_words(works, project, future) for future in futures_of(kind)]
        span = lead_span(works, project, kind)
        if leads[0] is None:
            self.assertIsNone(span)
        else:
            self.assertEqual(span, (min(leads, key=lambda lead: Fraction(*lead)),
                                    max(leads, key=lambda lead: Fraction(*lead))))
            self.assertIs(type(span), tuple)

    def test_spans_and_safe_projects_on_one_cell(self):
        dice = random.Random(113)
        looked = 0
        while looked < 60:
            works, _ = random_works(dice, share=0.4)
            if not 1 <= len(works.gauges) <= 4 or works.is_finished():
                continue
            looked += 1
            kind = Kind(works.gauges, [[(low + 1, high + 1) for low, high in box]
                                       for box in random_boxes(dice, len(works.gauges), 2, 1)])
            spans = {project: lead_span(works, project, kind) for project in works.choices()}
            for project in spans:
                safe = all(works.regret(project, future) == 0 for future in futures_of(kind))
                others = [Fraction(*spans[other][1]) for other in spans if other != project]
                self.assertEqual(safe, all(Fraction(*spans[project][0]) >= lead for lead in others))

    def test_errors_in_their_order(self):
        works = Works([[("h", "w")], [(1, 1)], []], placed=[1])
        low = Kind(["h"], [[(0, 3)]])
        for project in (-1, 3, None, [0], HUGE):
            self.assertEqual(told(lead_span, works, project, low), ("InvalidDecision", project))
        for project in (0, 1, 2):
            self.assertEqual(told(lead_span, works, project, low), ("MissingGauge", "w"))
            self.assertEqual(told(lead_span, works, project, Kind(["a"], [[(1, 1)]])), ("MissingGauge", "h"))
            both = Kind(["h", "w"], [[(2, 3), (0, 0)], [(0, 0), (5, 5)]])
            self.assertEqual(told(lead_span, works, project, both), ("OutOfRange", "h"))
        fine = Kind(["a", "h", "w"], [[(0, 0), (1, 2), (0, 3)]])
        self.assertEqual([lead_span(works, project, fine) for project in range(3)], [((0, 1), (3, 1)), None, None])

    def test_great_numbers(self):
        works = Works([[("h", "w"), (BIG, 1)], [(BIG, BIG - 1)]])
        kind = Kind(["h", "w"], [[(BIG - 1, BIG), (BIG - 2, BIG)]])
        self.assertEqual(lead_span(works, 0, kind), ((BIG // 2 - 1, BIG // 2), (BIG, BIG - 1)))
        self.assertEqual(lead_span(works, 1, kind), ((BIG - 1, BIG), (BIG - 1, BIG)))


class Directions(unittest.TestCase, DepartmentChecks):
    def test_signs(self):
        works = Works(SMALL)
        self.assertEqual(works.directions(0), [{"a": 1, "b": -1, "c": -1, "h": 1}])
        self.assertEqual(works.directions(2), [{"a": -1, "b": 1, "c": 1, "h": -1}])
        self.assertEqual(list(works.directions(2)[0]), ["a", "b", "c", "h"])
        self.assertEqual(works.after(0).directions(0), works.directions(0))
        self.assertEqual(works.after(2).directions(0), works.directions(0))
        self.assertEqual(Works([[(1, 2)]]).directions(0), [{}])

    def test_regrets_never_fall_in_the_direction(self):
        dice = random.Random(114)
        pairs = 0
        for _ in range(150):
            works, _ = random_works(dice, lengths=(1, 2, 2, 3))
            while not works.is_finished():
                decision = dice.choice(works.choices())
                pairs += self.check_direction(dice, works, decision, 8)
                works = works.after(decision)
        self.assertGreater(pairs, 300)

    def test_the_greatest_regret_is_that_of_an_end(self):
        works = Works([[("a", 2), (1, "b")], [("c", 3)], [(2, "d")]])
        dice = random.Random(115)
        for _ in range(15):
            boxes = [[(low + 1, high + 1) for low, high in box] for box in random_boxes(dice, 4, 4, 3)]
            kind = Kind(list("abcd"), boxes)
            for decision in (0, 1, 2):
                regrets = [works.regret(decision, future) for future in futures_of(kind)]
                corners = ends(kind, works.directions(decision)[0])
                self.assertEqual(max(regrets), max(works.regret(decision, future) for future in corners))


class Certificates(unittest.TestCase):
    def parts_by_words(self, steps, cuts):
        """Return the parts of the steps of a project, or None if the cuts are not as point 42 says."""
        if not isinstance(cuts, (list, tuple)) or not all(isinstance(cut, int) for cut in cuts):
            return None
        marks = [0, *cuts]
        if marks[-1] != len(steps) or any(one >= two for one, two in zip(marks, marks[1:])):
            return None
        parts = [steps[one:two] for one, two in zip(marks, marks[1:])]
        for part in parts:
            hours, worth = sum(step[0] for step in part), sum(step[1] for step in part)
            for k in range(1, len(part) + 1):
                if sum(step[1] for step in part[:k]) * hours > worth * sum(step[0] for step in part[:k]):
                    return None
        return parts

    def bound_by_words(self, works, certificate, future):
        """Return the bound, or the index of the first project whose cuts are wrong in brackets."""
        rows = [[(value(hours, future), value(worth, future)) for hours, worth in steps]
                for steps in steps_to_go(works)]
        parts = [self.parts_by_words(steps, cuts) for steps, cuts in zip(rows, certificate)]
        if None in parts:
            return [parts.index(None)]
        ratios = {}
        for at, part in enumerate(part for row in parts for part in row):
            ratios[at] = (Fraction(sum(step[1] for step in part), sum(step[0] for step in part)), part)
        order = sorted(ratios.values(), key=cmp_to_key(lambda one, two: (two[0] > one[0]) - (two[0] < one[0])))
        hour = sum(value(works.projects[at][works.placed[:k].count(at)][0], future)
                   for k, at in enumerate(works.placed))
        total = cost_by_words(works, (), future)
        for _, part in order:
            for hours, worth in part:
                hour += hours
                total += worth * hour
        return total

    def test_those_of_the_program(self):
        dice = random.Random(116)
        for _ in range(150):
            works, future = random_works(dice, lengths=(0, 1, 2, 3, 4, 5), most=4)
            while True:
                certificate = works.certificate(future)
                self.assertEqual(len(certificate), len(works.projects))
                self.assertEqual(self.bound_by_words(works, certificate, future), works.least(future))
                self.assertEqual(works.bound(certificate, future), works.least(future))
                if works.is_finished():
                    break
                works = works.after(dice.choice(works.choices()))

    def test_those_of_strangers(self):
        dice = random.Random(117)
        valid = faults = 0
        for _ in range(1500):
            works, future = random_works(dice, lengths=(0, 1, 2, 3), most=3)
            if not works.is_finished() and dice.random() < 0.4:
                works = works.after(dice.choice(works.choices()))
            certificate = []
            for steps in steps_to_go(works):
                certificate.append([cut for cut in range(1, len(steps)) if dice.random() < 0.7] + [len(steps)])
                if not steps and dice.random() < 0.9:
                    certificate[-1] = []
            found = self.bound_by_words(works, certificate, future)
            if isinstance(found, int):
                valid += 1
                self.assertEqual(works.bound(tuple(map(tuple, certificate)), future), found)
                self.assertLessEqual(found, works.least(future))
            else:
                faults += 1
                self.assertEqual(told(works.bound, certificate, future), ("InvalidCertificate", *found))
        self.assertGreater(min(valid, faults), 200)

    def test_each_condition_exactly_met_and_missed_by_one(self):
        works = Works([[(1, 2), (2, "w"), (1, 1)], [(2, 2)]])
        for w, whole in ((3, False), (4, False), (5, True), (6, True)):
            # The first step has the ratio 2; the first two together, without and with the third one, (2 + w) / 3 ..
            cuts = [[1, 2, 3], [1]]
            self.assertIsNone(told(works.bound, cuts, {"w": w}))
            fault = None if 2 * 4 <= 3 + w and (2 + w) * 4 <= (3 + w) * 3 else ("InvalidCertificate", 0)
            self.assertEqual(told(works.bound, [[3], [1]], {"w": w}), fault)
            first = None if 2 * 3 <= 2 + w else ("InvalidCertificate", 0)
            self.assertEqual(told(works.bound, [[2, 3], [1]], {"w": w}), first)
            self.assertEqual(first is None, w >= 4)
        pair = Works([[(2, 3), (2, "w")]])
        self.assertEqual(told(pair.bound, [[2]], {"w": 2}), ("InvalidCertificate", 0))
        self.assertEqual(pair.bound([[2]], {"w": 3}), pair.least({"w": 3}))
        self.assertEqual(pair.bound([[1, 2]], {"w": 3}), pair.least({"w": 3}))
        self.assertEqual(pair.bound([[2]], {"w": 9}), pair.least({"w": 9}))
        self.assertLess(Works([[(2, 3), (2, 9)], [(2, 4)]]).bound([[1, 2], [1]], {}),
                        Works([[(2, 3), (2, 9)], [(2, 4)]]).least({}))

    def test_wrong_forms(self):
        works = Works([[(1, 1), (1, 1), (1, 1)], [], [(2, 5)], [(1, 1)]], placed=[3])
        good = [[3], [], [1], []]
        self.assertEqual(works.bound(good, {}), works.least({}))
        for certificate, index in ((None, 0), (3, 0), ([], 0), ([None], 1), ([[3], [], [1]], 3), (good + [[]], 4),
                                   ([None] * 9, 4)):
            self.assertEqual(told(works.bound, certificate, {}), ("InvalidCertificate", index), certificate)
        for bad in (None, 3, [], [2], [4], [1, 2], [0, 3], [-1, 3], [1, 1, 3], [2, 1, 3], [3, 3], [1, None, 3],
                    [1, [2], 3], [[3]], [None], [3, 2], [HUGE], [3, HUGE]):
            self.assertEqual(told(works.bound, [bad, [0], [1], []], {}), ("InvalidCertificate", 0), bad)
        for bad in ([0], [1], None, 0, [None], [[]]):
            self.assertEqual(told(works.bound, [[1, 3], bad, None, []], {}), ("InvalidCertificate", 1), bad)
        self.assertEqual(told(works.bound, [[1, 3], (), [1, 1], [9]], {}), ("InvalidCertificate", 2))
        self.assertEqual(told(works.bound, [[1, 3], (), (1,), [1]], {}), ("InvalidCertificate", 3))
        self.assertEqual(works.bound(((1, 2, 3), (), (1,), ()), {}), works.least({}))

    def test_finished_works(self):
        works = Works([[(2, 3)], []], placed=[0])
        self.assertEqual((works.certificate({}), works.bound([[], []], {}), works.least({})), ([[], []], 6, 6))
        self.assertEqual(told(works.bound, [], {}), ("InvalidCertificate", 0))
        self.assertEqual(told(works.bound, [[1], []], {}), ("InvalidCertificate", 0))
        self.assertEqual((Works([]).certificate({}), Works([]).bound([], {})), ([], 0))
        self.assertEqual(told(Works([]).bound, [[]], {}), ("InvalidCertificate", 0))

    def test_a_passed_certificate_stays(self):
        certificate = [[1, 2]]
        Works([[(1, 1), (1, 1)]]).bound(certificate, {})
        self.assertEqual(certificate, [[1, 2]])


class Great(unittest.TestCase):
    def test_eight_projects_and_twenty_four_steps(self):
        projects = [[(f"h{at}" if step == 1 else BIG - at * step, BIG - (at * 7 + step * 5) % 9) for step in range(3)]
                    for at in range(8)]
        works = Works(projects)
        future = {f"h{at}": BIG // (at + 1) for at in range(8)}
        while not works.is_finished():
            least = works.least(future)
            self.assertEqual(works.cost(works.finish(future), future), least)
            self.assertEqual(works.bound(works.certificate(future), future), least)
            regrets = [works.regret(decision, future) for decision in works.choices()]
            self.assertEqual([works.after(decision).least(future) - least for decision in works.choices()], regrets)
            self.assertEqual(works.level(future, max(regrets)), works.level(future, HUGE))
            works = works.after(works.choices()[-1])

    def test_futures_with_very_great_values(self):
        works = Works([[("h", "w")], [(1, 1)]])
        self.assertEqual(works.lead(0, {"h": HUGE, "w": HUGE}), (1, 1))
        self.assertEqual(works.least({"h": HUGE, "w": 1}), 1 + HUGE + 1)
        self.assertEqual(works.regret(0, {"h": HUGE, "w": 1}), HUGE - 1)
        self.assertEqual(works.regret(1, {"h": 1, "w": HUGE}), HUGE - 1)


class Interface(unittest.TestCase):
    def test_equal_arguments_give_equal_results(self):
        first, second = Works(SMALL), Works(tuple(map(tuple, SMALL)))
        for h, w in product((1, 2), (0, 3)):
            future = {"h": h, "c": 2, "b": w, "a": 1}
            self.assertEqual(first.certificate(future), second.certificate({**dict(sorted(future.items())), "z": 1}))
            self.assertEqual(first.finish(future), second.finish(future))

    def test_a_kind_of_one_future(self):
        works = Works([[("h", "w")]])
        self.assertEqual(lead_span(works, 0, single({"h": 4, "w": 6, "x": 0})), ((3, 2), (3, 2)))

    def test_listed_methods_stand_in_the_class(self):
        for name in ("is_finished", "allows", "after", "regret", "directions", "least", "level", "finish", "cost",
                     "certificate", "bound", "lead"):
            self.assertIn(name, vars(Works))
        for name in ("projects", "placed", "gauges", "hour_gauges"):
            self.assertIn(name, vars(Works([])))


if __name__ == "__main__":
    unittest.main()

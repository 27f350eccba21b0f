"""What the document promises over the whole program: points 2, 3, 17 to 23, 55 and 61 to 67 along runs of a desk."""

import copy
import random
import unittest

from everyfuture.curves import Curve
from everyfuture.days import advice, is_product, least_day, separate_losses, settling_house
from everyfuture.deedtext import read_commands, read_paper, write_commands, write_paper
from everyfuture.desk import Desk
from everyfuture.ends import ends, is_as_far
from everyfuture.few import few
from everyfuture.houses import House
from everyfuture.keeping import breach, least_limit, shortfall
from everyfuture.kinds import Kind, both, either, menu, single
from everyfuture.kindtext import read_kind, write_kind
from everyfuture.lines import Line
from everyfuture.losses import is_safe, least_loss, loss, parting, within
from everyfuture.news import best_question, safe_from, safe_up_to, settling
from everyfuture.orders import Orders
from everyfuture.papers import make_paper, paper_bound
from everyfuture.plans import Plans
from everyfuture.profiles import least_merge, sum_merge
from everyfuture.promises import Promises
from everyfuture.rises import worst_cost
from everyfuture.sections import sections
from everyfuture.stretches import common_stretches, has_number, join_stretches
from everyfuture.surprises import merged_losses, most_surprises, surprise_losses
from everyfuture.waits import backlogs, least_total
from everyfuture.words import write_list
from everyfuture.works import Works, lead_span
from everyfuture.worktext import read_department, write_department
from tests.brute import futures_of, told
from tests.houses import is_row, kind_of, leaves_of, loss_by_words, open_house, random_decision
from tests.houses import random_house, random_part

ORDERS = Orders([("w", "p", 2, 1, 1, 3), (2, 3, 1, 1, 1, 2)], urgent=9)
PLANS = Plans(("one", ["a", ("all", ["b", 2])]))
WORKS = Works([[("h", 3)], [(2, "v"), (1, 1)]])
PROMISES = Promises([2, 1], [["j", 1], [1, 0]], fine=4)
HOUSE = House([ORDERS, House([PLANS, WORKS]), PROMISES])
BOXES = [[(1, 2), (0, 3), (1, 3), (2, 2), (1, 2), (0, 1), (1, 2)],
         [(2, 3), (1, 1), (2, 4), (1, 3), (1, 2), (0, 0), (0, 1)]]
KIND = Kind(["a", "b", "h", "j", "p", "v", "w"], BOXES)
FUTURE = {"a": 2, "b": 1, "h": 2, "j": 2, "p": 1, "v": 1, "w": 2}
DECISION = [1, [0, 1], 2]
REST = HOUSE.after(DECISION).finish(FUTURE)
PAIRS = [(single(FUTURE).onto(["w", "p"]), Kind(["p", "w"], [[(0, 2), (0, 3)]])),
         (single(FUTURE).onto(["a", "b"]), single({"a": 4, "b": 0})),
         (single(FUTURE).onto(["h", "j", "v"]), single({"h": 1, "v": 2, "j": 0}))]

# Calls with lists in them; each of these lists may be a tuple, and none of them is changed.
CALLS = [
    (join_stretches, [(5, 7), (1, 2), (3, 3)]), (common_stretches, [(1, 4), (8, 9)], [(3, 8)]),
    (has_number, [(1, 4)], 3),
    (lambda *values: Kind(*values).cells, ["b", "a"], [[(0, 1), (0, 3)], [(0, 4), (2, 5)]]),
    (lambda gauges: KIND.onto(gauges).cells, ["w", "a"]), (lambda values: menu("a", values).cells, [3, 1, 3]),
    (lambda kinds: both(kinds).cells, [menu("b", [1]), menu("a", [2])]),
    (lambda kinds: either(kinds).cells, [menu("a", [1]), menu("a", [4, 2])]),
    (lambda pairs: few(2, pairs).cells, PAIRS), (lambda pieces: Curve(1, pieces).pieces, [(0, -2), (3, 1)]),
    (lambda corners: Line(1, -2, corners).corners, [(-1, 2), (3, 1)]),
    (lambda periods, placed: vars(Orders(periods, placed=placed)), [("w", 3, 1, 2, 1, 2), (1, 1, 1, 1, 1, 1)], [4]),
    (lambda parts, placed: Plans(("all", parts), placed=placed).term, ["b", ("one", ["a", 3])], [1]),
    (lambda projects, placed: vars(Works(projects, placed=placed)), [[("h", 1), (2, 3)], []], [0]),
    (lambda rates, table, placed: vars(Promises(rates, table, fine=5, placed=placed)), [2, 1], [["a", 1], [0, 2]], [3]),
    (lambda parts: House(parts).gauges, [ORDERS, PLANS]), (lambda plan: ORDERS.cost(plan, FUTURE), [1, 2]),
    (lambda plan: PLANS.cost(plan, FUTURE), [1]), (lambda plan: WORKS.cost(plan, FUTURE), [1, 0, 1]),
    (lambda plan: PROMISES.cost(plan, FUTURE), [1, 2]),
    (lambda plan: HOUSE.cost(plan, FUTURE), [[1, 2], [[0], [1, 0, 1]], [2, 3]]),
    (lambda paper: ORDERS.bound(paper, FUTURE), ORDERS.certificate(FUTURE)),
    (lambda paper: PLANS.bound(paper, FUTURE), PLANS.certificate(FUTURE)),
    (lambda paper: WORKS.bound(paper, FUTURE), WORKS.certificate(FUTURE)),
    (lambda paper: PROMISES.bound(paper, FUTURE), PROMISES.certificate(FUTURE)),
    (lambda paper: HOUSE.bound(paper, FUTURE), HOUSE.certificate(FUTURE)), (lambda day: HOUSE.allows(day), DECISION),
    (lambda day: HOUSE.regret(day, FUTURE), DECISION), (lambda day: HOUSE.directions(day), DECISION),
    (lambda day: write_department(HOUSE.after(day)), DECISION), (lambda group: PROMISES.demand(group, FUTURE), [0, 1]),
    (sum_merge, [1, 2], [0, 3, 3]), (least_merge, [1, 2], [0, 3, 3]),
    (lambda plan: worst_cost(PLANS, plan, FUTURE, FUTURE, 1), [1]), (sections, [(1, 2), (2, 5), (1, 0)]),
    (backlogs, [[1, 2], [0, 1]], [0, 1]), (least_total, [[1, 2], [0, 1]], [1]),
    (lambda limits: shortfall(PROMISES, limits, FUTURE), [1]), (lambda limits: breach(PROMISES, limits, KIND), [1, 1]),
    (lambda day: loss(HOUSE, day, KIND), DECISION), (lambda day: is_safe(HOUSE, day, KIND), DECISION),
    (lambda day: separate_losses(HOUSE, day, KIND), DECISION),
    (lambda day, pairs: surprise_losses(HOUSE, day, pairs), DECISION, PAIRS),
    (lambda day, pairs: merged_losses(HOUSE, day, pairs), [1, None, None],
     [PAIRS[0], (menu("j", [3]), menu("j", [1])), (single(FUTURE).onto(["a", "b", "h", "v"]),) * 2]),
    (lambda day, pairs: most_surprises(HOUSE, day, pairs, limit=9), DECISION, PAIRS),
    (lambda day: make_paper(HOUSE, day, KIND), DECISION),
    (lambda day, rows: paper_bound(HOUSE, day, KIND, rows), DECISION,
     [list(row) for row in make_paper(HOUSE, DECISION, KIND)]),
    (write_list, [1, [None, [2]], []]), (write_paper, [[{"a": 1}, [1, [2]], [[], None]]]),
    (write_commands, [["decide", [1, [None]]], ["learn", "a", None, 3], ["undo"]]),
    (lambda commands: Desk(HOUSE, KIND).run(commands),
     [["decide", DECISION], ["learn", "a", None, 2], ["undo"], ["redo"]]),
]


def as_tuples(value):
    """Return the value with tuples for all lists in it."""
    return tuple(as_tuples(part) for part in value) if isinstance(value, (list, tuple)) else value


class Arguments(unittest.TestCase):
    def test_a_tuple_may_stand_for_any_list_and_nothing_is_changed(self):
        for at, (call, *values) in enumerate(CALLS):
            before, kept = repr(values), copy.deepcopy(values)
            first = call(*values)
            self.assertEqual(repr(values), before, at)
            self.assertEqual(repr(call(*as_tuples(values))), repr(first), at)
            self.assertEqual(repr(call(*kept)), repr(first), at)

    def test_departments_and_kinds_are_not_changed(self):
        before = (write_department(HOUSE), write_kind(KIND))
        for call in (lambda: least_day(HOUSE, KIND), lambda: advice(HOUSE, KIND), lambda: is_product(HOUSE, KIND),
                     lambda: settling_house(HOUSE, KIND, "a", most=1), lambda: least_loss(ORDERS, KIND),
                     lambda: within(PLANS, KIND), lambda: parting(WORKS, KIND),
                     lambda: best_question(PROMISES, KIND, "j"),
                     lambda: settling(ORDERS, KIND, "w", limit=50), lambda: safe_from(PLANS, 0, KIND, "a"),
                     lambda: safe_up_to(WORKS, 0, KIND, "h"), lambda: least_limit(PROMISES, KIND),
                     lambda: lead_span(WORKS, 1, KIND)):
            first = told(call) or call()
            self.assertEqual(told(call) or call(), first)
            self.assertEqual((write_department(HOUSE), write_kind(KIND)), before)

    def test_directions_and_futures_are_not_changed(self):
        future, signs = dict(reversed(FUTURE.items())), {gauge: 1 for gauge in reversed(KIND.gauges)}
        kept = list(future.items()), list(signs.items())
        for call in (HOUSE.least, HOUSE.finish, HOUSE.certificate, ORDERS.curve, PROMISES.rows, PROMISES.needs,
                     lambda row: ends(KIND, signs), lambda row: is_as_far(row, row, signs), lambda row: single(row),
                     lambda row: KIND.complete(row), lambda row: Desk(HOUSE, KIND).account(row)):
            call(future)
            self.assertEqual((list(future.items()), list(signs.items())), kept)


class AllDepartments(unittest.TestCase):
    def cases(self, seed, many):
        dice = random.Random(seed)
        for at in range(many):
            department = random_house(dice) if at % 3 == 0 else random_part(dice, "")
            yield dice, department, kind_of(dice, department)

    def test_placing_decisions(self):
        for dice, department, kind in self.cases(310, 120):
            text = write_department(department)
            steps = 0
            while not department.is_finished():
                decision = random_decision(dice, department, 0.2)
                self.assertIs(department.allows(decision), True)
                after = department.after(decision)
                self.assertIs(type(after), type(department))
                if not isinstance(department, House):
                    self.assertEqual(after.placed, department.placed + (decision,))
                    own, new = vars(department), vars(after)
                    same = [name for name in own if name not in ("placed", "gauges", "_chosen")]
                    self.assertEqual([own[name] for name in same], [new[name] for name in same])
                    self.assertTrue(isinstance(department, Plans) or after.gauges == department.gauges)
                self.assertTrue(set(after.gauges) <= set(department.gauges))
                department, steps = after, steps + 1
            self.assertEqual(write_department(read_department(text)), text)
            for decision in (0, None, [], [None], [None] * len(getattr(department, "parts", ()))):
                self.assertIs(department.allows(decision), False)
                self.assertEqual(told(department.after, decision), ("NothingOpen",))
            if not isinstance(department, House):
                self.assertEqual(told(department.level, {}, 0), ("NothingOpen",))
            self.assertEqual([leaf.finish(futures_of(kind)[0]) for leaf in leaves_of(department)],
                             [[] for _ in leaves_of(department)])

    def test_certificates_of_other_futures_have_no_greater_bounds(self):
        valid = greater = 0
        for dice, department, kind in self.cases(311, 150):
            futures = futures_of(kind.onto(department.gauges))
            for _ in range(6):
                one, two = dice.choice(futures), dice.choice(futures)
                certificate = department.certificate(one)
                self.assertEqual(department.bound(certificate, one), department.least(one))
                if told(department.bound, certificate, two) is None:
                    valid += 1
                    self.assertLessEqual(department.bound(certificate, two), department.least(two))
                    greater += department.bound(certificate, two) < department.least(two)
        self.assertGreater(valid, 200)
        self.assertGreater(greater, 20)

    def test_regrets_levels_and_best_decisions(self):
        for dice, department, kind in self.cases(312, 100):
            if department.is_finished():
                continue
            future = dice.choice(futures_of(kind))
            finish = department.finish(future)
            self.assertEqual(department.cost(finish, future), department.least(future))
            if isinstance(department, House):
                first = [None if part.is_finished() else part.finish(future)[0] if not isinstance(part, House) else None
                         for part in department.parts]
                self.assertEqual(department.regret(first, future), 0)
                continue
            self.assertEqual(department.regret(finish[0], future), 0)
            self.assertEqual(department.level(future, 0)[0][0], finish[0])
            for limit in (0, 1, 5):
                level = department.level(future, limit)
                self.assertEqual(len(level) == 1 or not is_row(department), True)
                for decision in range(12):
                    if department.allows(decision):
                        self.assertIs(has_number(level, decision), department.regret(decision, future) <= limit)

    def test_regrets_never_fall_in_a_direction_of_a_choice_and_best_rows_are_best_between(self):
        for dice, department, kind in self.cases(313, 120):
            if department.is_finished() or isinstance(department, House):
                continue
            futures = futures_of(kind.onto(department.gauges))
            decision = random_decision(dice, department)
            last = department.directions(decision)[-1]
            for _ in range(8):
                one, two = dice.choice(futures), dice.choice(futures)
                if not is_as_far(two, one, last):
                    continue
                if not is_row(department):
                    self.assertLessEqual(department.regret(decision, one), department.regret(decision, two))
                    continue
                low, high = department.level(one, 0)[0], department.level(two, 0)[0]
                self.assertTrue(low[0] <= high[0] and low[1] <= high[1])
                for between in futures:
                    if is_as_far(between, one, last) and is_as_far(two, between, last):
                        for best in range(max(low[0], high[0]), min(low[1], high[1]) + 1):
                            self.assertEqual(department.regret(best, between), 0)


class AlongRuns(unittest.TestCase):
    def runs(self, seed, many):
        """Yield a desk before each of its decisions, with the decision."""
        dice = random.Random(seed)
        for _ in range(many):
            house = open_house(dice)
            kind = kind_of(dice, house, most=16)
            desk = Desk(house, kind)
            while not desk.house.is_finished():
                if dice.random() < 0.3:
                    gauge = dice.choice(kind.gauges)
                    desk.learn(gauge, high=dice.choice(futures_of(desk.kind))[gauge])
                decision = random_decision(dice, desk.house, 0.3)
                yield dice, desk, decision
                desk.decide(decision)

    def test_losses_papers_and_separate_losses(self):
        for _, desk, decision in self.runs(320, 40):
            house, kind = desk.house, desk.kind
            amount = loss(house, decision, kind)[0]
            self.assertEqual(amount, loss_by_words(house, decision, kind))
            self.assertEqual(paper_bound(house, decision, kind, make_paper(house, decision, kind)), amount)
            separate = [entry for entry in separate_losses(house, decision, kind) if entry is not None]
            self.assertGreaterEqual(sum(separate), amount)
            self.assertIs(amount == 0, sum(separate) == 0)
            if is_product(house, kind):
                self.assertEqual(sum(separate), amount)

    def test_texts(self):
        for _, desk, decision in self.runs(321, 25):
            house, kind = read_department(write_department(desk.house)), read_kind(write_kind(desk.kind))
            self.assertEqual(loss(house, decision, kind), loss(desk.house, decision, desk.kind))
            paper = read_paper(write_paper(make_paper(house, decision, kind)))
            self.assertEqual(paper_bound(desk.house, decision, desk.kind, paper), loss(house, decision, kind)[0])
            again = Desk(desk.start, Kind(desk.kind.gauges, [[(0, 9)] * len(desk.kind.gauges)])
                         if not desk.start.hour_gauges else desk.kind)
            again.run(read_commands(write_commands(list(desk))))
            self.assertEqual(list(again), list(desk))

    def test_advice_and_least_days(self):
        for _, desk, _ in self.runs(322, 30):
            amount, day = least_day(desk.house, desk.kind)
            self.assertLessEqual(loss(desk.house, day, desk.kind)[0], amount)
            safe = self.flat(advice(desk.house, desk.kind))
            self.assertIs(amount == 0, all(safe))
            rows = told(settling_house, desk.house, desk.kind, "zz") or settling_house(desk.house, desk.kind, "zz")
            if all(safe):
                self.assertEqual([row[2] for row in rows], [day])
                self.assertIs(is_safe(desk.house, day, desk.kind), True)
            elif isinstance(rows, list):
                self.assertGreater(len(rows), 1)

    def flat(self, advised):
        """Return the stretch lists in what `advice` returns."""
        found = []
        for entry in advised:
            if entry and isinstance(entry[0], tuple) or entry == []:
                found.append(entry)
            elif entry is not None:
                found += self.flat(entry)
        return found

    def test_surprises(self):
        for dice, desk, decision in self.runs(323, 25):
            pairs = []
            for part in desk.house.parts:
                if part.gauges:
                    futures = futures_of(desk.kind.onto(part.gauges))
                    pairs.append((single(dice.choice(futures)), single(dice.choice(futures))))
            amounts = surprise_losses(desk.house, decision, pairs)
            self.assertEqual(merged_losses(desk.house, decision, pairs), amounts)
            self.assertEqual(amounts, [loss(desk.house, decision, few(k, pairs))[0] for k in range(len(pairs) + 1)])
            fine = [k for k, amount in enumerate(amounts) if amount <= amounts[0]]
            self.assertEqual(most_surprises(desk.house, decision, pairs, limit=amounts[0]), fine[-1])

    def test_least_losses_of_parts_of_kinds(self):
        for dice, desk, _ in self.runs(324, 25):
            gauge = dice.choice(desk.kind.gauges)
            value = dice.choice(futures_of(desk.kind))[gauge]
            part = desk.kind.cut(gauge, low=value)
            self.assertLessEqual(least_day(desk.house, part)[0], least_day(desk.house, desk.kind)[0])


if __name__ == "__main__":
    unittest.main()

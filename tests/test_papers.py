"""Points 65 to 67: papers."""

import random
import unittest

from everyfuture.days import separate_losses
from everyfuture.ends import corner, ends, is_as_far
from everyfuture.houses import House
from everyfuture.kinds import Kind, menu
from everyfuture.losses import loss
from everyfuture.orders import Orders
from everyfuture.papers import make_paper, paper_bound
from everyfuture.plans import Plans
from everyfuture.promises import Promises
from everyfuture.works import Works
from tests.brute import BIG, HUGE, told
from tests.houses import MAKERS, day_regret, kind_of, loss_by_words, open_house, random_decision, random_part

PLANS = Plans(("one", ["a", "b"]))
SQUARE = Kind(["a", "b"], [[(0, 3), (1, 2)]])
EMPTY = Kind([], [[]])


def amount_of(department, decision, row):
    """Return the amount of a good row, as point 65 says."""
    future, rest, certificate = row
    return department.after(decision).cost(rest, future) - department.bound(certificate, future)


def paper_by_words(department, decision, kind):
    """Return the paper of point 67."""
    own = kind.onto(department.gauges)
    futures = []
    for signs in department.directions(decision):
        futures += [future for future in ends(own, signs) if future not in futures]
    return [(future, department.after(decision).finish(future), department.certificate(future)) for future in futures]


def answer_by_words(department, decision, kind, rows):
    """Return what point 66 says of rows that the department does not refuse, a number or the tuple of an error."""
    own = kind.onto(department.gauges)
    for at, signs in enumerate(department.directions(decision)):
        for index in range(len(own.cells)):
            wanted = corner(own, index, signs)
            if not any(is_as_far(row[0], wanted, signs) for row in rows):
                return ("NotCovered", at, wanted)
    return max(amount_of(department, decision, row) for row in rows)


def result_of(*values):
    error = told(paper_bound, *values)
    return paper_bound(*values) if error is None else error


class Checks:
    """The checks of the papers of one kind of departments; `department` returns an open one."""

    def cases(self, seed, many):
        dice = random.Random(seed)
        for _ in range(many):
            department = self.department(dice)
            kind = kind_of(dice, department)
            yield dice, department, kind, random_decision(dice, department)

    def test_make_paper_row_by_row(self):
        for _, department, kind, decision in self.cases(250, 40):
            rows = make_paper(department, decision, kind)
            self.assertEqual(rows, paper_by_words(department, decision, kind))
            self.assertEqual((type(rows), {type(row) for row in rows}), (list, {tuple}))
            self.assertEqual([list(row[0]) for row in rows], [list(department.gauges)] * len(rows))
            for row in rows:
                self.assertEqual(amount_of(department, decision, row), day_regret(department, decision, row[0]))
            self.assertEqual(paper_bound(department, decision, kind, rows), loss_by_words(department, decision, kind))
            self.assertEqual(paper_bound(department, decision, kind, tuple(rows)), loss(department, decision, kind)[0])

    def test_rows_that_are_left_out_moved_or_exchanged(self):
        bare = 0
        for dice, department, kind, decision in self.cases(251, 40):
            rows = make_paper(department, decision, kind)
            for at in range(len(rows)):
                found = result_of(department, decision, kind, rows[:at] + rows[at + 1:])
                self.assertEqual(found[0] if isinstance(found, tuple) else "", "NotCovered")
            some = [row for row in rows if dice.random() < 0.7]
            dice.shuffle(some)
            found = result_of(department, decision, kind, some)
            self.assertEqual(found, answer_by_words(department, decision, kind, some))
            bare += isinstance(found, tuple)
            dice.shuffle(rows)
            self.assertEqual(paper_bound(department, decision, kind, rows), loss_by_words(department, decision, kind))
            moved = [({gauge: max(1, value + dice.choice((-1, 0, 0, 1))) for gauge, value in future.items()}, *row)
                     for future, *row in rows]
            self.check_refusals(department, decision, kind, moved)
            self.check_refusals(department, decision, kind, moved + rows)
            if len(rows) > 1:
                mixed = [(rows[at][0], rows[at - 1][1], rows[at - 2][2]) for at in range(len(rows))]
                self.check_refusals(department, decision, kind, mixed)
        self.assertGreater(bare, 5)

    def check_refusals(self, department, decision, kind, rows):
        """Check a paper that may have refused rows; its number is never less than the loss."""
        refused = []
        for at, (future, rest, certificate) in enumerate(rows):
            if (told(department.after(decision).cost, rest, future) or told(department.bound, certificate, future)):
                refused.append(at)
        found = result_of(department, decision, kind, rows)
        if refused:
            self.assertEqual(found, ("InvalidRow", refused[0]))
            return
        self.assertEqual(found, answer_by_words(department, decision, kind, rows))
        if not isinstance(found, tuple):
            self.assertGreaterEqual(found, loss_by_words(department, decision, kind))

    def test_spoilt_rows(self):
        for dice, department, kind, decision in self.cases(252, 25):
            rows = make_paper(department, decision, kind)
            at = dice.randrange(len(rows))
            future, rest, certificate = rows[at]
            gauge = department.gauges[0] if department.gauges else None
            bad = [(future, 5, certificate), (future, None, certificate), (future, rest + [0], certificate),
                   (future, [None] + rest[1:], certificate), (future, [[[-1]]] + rest[1:], certificate),
                   (future, rest, 0), (future, rest, None), (future, rest, certificate + [HUGE]),
                   (future, rest, [None] + certificate), (future, rest, [[[]]] + certificate[1:] + [1])]
            if gauge is not None:
                lacking = {name: value for name, value in future.items() if name != gauge}
                bad += [(lacking, rest, certificate), ({}, rest, certificate),
                        ({**future, gauge: -1}, rest, certificate)]
            for row in bad:
                spoilt = rows[:at] + [row] + rows[at + 1:] + [(future, 7, 7)]
                self.assertEqual(result_of(department, decision, kind, spoilt), ("InvalidRow", at), row)
                self.assertEqual(result_of(department, decision, kind, [row]), ("InvalidRow", 0))

    def test_a_row_that_covers_nothing_counts(self):
        for dice, department, kind, decision in self.cases(253, 25):
            rows = make_paper(department, decision, kind)
            future = {gauge: dice.randint(1, 9) for gauge in department.gauges}
            row = (future, department.after(decision).finish(future), department.certificate(future))
            number = max(loss_by_words(department, decision, kind), amount_of(department, decision, row))
            for paper in ([row, *rows], [*rows, row], [row, *rows, row]):
                self.assertEqual(paper_bound(department, decision, kind, paper), number)

    def test_no_rows(self):
        for _, department, kind, decision in self.cases(254, 10):
            own = kind.onto(department.gauges)
            wanted = corner(own, 0, department.directions(decision)[0])
            for rows in ([], ()):
                self.assertEqual(told(paper_bound, department, decision, kind, rows), ("NotCovered", 0, wanted))

    def test_more_gauges_in_the_rows(self):
        for _, department, kind, decision in self.cases(255, 10):
            rows = [({"aaa": -5, **future, "zzz": -HUGE}, rest, certificate)
                    for future, rest, certificate in make_paper(department, decision, kind)]
            self.assertEqual(paper_bound(department, decision, kind, rows), loss_by_words(department, decision, kind))

    def test_nothing_is_tied(self):
        for _, department, kind, decision in self.cases(256, 10):
            rows = make_paper(department, decision, kind)
            shown = repr(rows)
            rows[0][0].clear()
            rows[0][1].append(3)
            rows[0][2].append(3)
            del rows[1:]
            again = make_paper(department, decision, kind)
            self.assertEqual(repr(again), shown)
            paper_bound(department, decision, kind, again)
            self.assertEqual(repr(again), shown)


class OnePart:
    def department(self, dice):
        while True:
            part = random_part(dice, "", makers=(self.make,))
            if not part.is_finished():
                return part


class OrdersPapers(OnePart, Checks, unittest.TestCase):
    make = staticmethod(MAKERS[0])


class PlansPapers(OnePart, Checks, unittest.TestCase):
    make = staticmethod(MAKERS[1])


class PromisesPapers(OnePart, Checks, unittest.TestCase):
    make = staticmethod(MAKERS[2])


class WorksPapers(OnePart, Checks, unittest.TestCase):
    make = staticmethod(MAKERS[3])


class HousePapers(Checks, unittest.TestCase):
    def department(self, dice):
        return open_house(dice)


class Rows(unittest.TestCase):
    def test_futures_outside_of_the_kind_may_cover(self):
        far = {"a": 9, "b": 0}
        row = (far, [], PLANS.certificate(far))
        self.assertEqual(paper_bound(PLANS, 0, SQUARE, [row]), 9)
        self.assertEqual(told(paper_bound, PLANS, 1, SQUARE, [row]), ("NotCovered", 0, {"a": 0, "b": 2}))
        self.assertEqual(loss(PLANS, 0, SQUARE)[0], 2)

    def test_weak_certificates(self):
        future = {"a": 3, "b": 1}
        self.assertEqual(paper_bound(PLANS, 0, SQUARE, [(future, [], [0, 3, 1])]), 3)
        self.assertEqual(paper_bound(PLANS, 0, SQUARE, [(future, [], [-HUGE, 3, 1])]), 3 + HUGE)
        self.assertEqual(told(paper_bound, PLANS, 0, SQUARE, [(future, [], [2, 3, 1])]), ("InvalidRow", 0))

    def test_the_order_of_corners(self):
        orders = Orders([("w", 2, 0, 0, 1, 3)], urgent=9)
        kind = menu("w", [1, 2, 5])
        rows = make_paper(orders, 3, kind)
        self.assertEqual([row[0] for row in rows], [{"w": 1}, {"w": 5}])
        self.assertEqual(told(paper_bound, orders, 3, kind, rows[1:]), ("NotCovered", 0, {"w": 1}))
        self.assertEqual(told(paper_bound, orders, 3, kind, rows[:1]), ("NotCovered", 1, {"w": 2}))
        gap = [({"w": 2}, [], orders.certificate({"w": 2})), rows[1]]
        self.assertEqual(told(paper_bound, orders, 3, kind, gap), ("NotCovered", 0, {"w": 1}))
        late = [rows[0], ({"w": 4}, [], orders.certificate({"w": 4}))]
        self.assertEqual(told(paper_bound, orders, 3, kind, late), ("NotCovered", 1, {"w": 5}))

    def test_each_direction_of_a_house(self):
        house = House([Orders([("w", 2, 0, 0, 1, 3)], urgent=9), Promises([1], [["j"]], fine=3)])
        kind = Kind(["j", "w"], [[(2, 4), (1, 5)]])
        rows = make_paper(house, [3, 2], kind)
        self.assertEqual([(row[0]["w"], row[0]["j"]) for row in rows], [(1, 2), (1, 4), (5, 2), (5, 4)])
        for at, row in enumerate(rows):
            self.assertEqual(told(paper_bound, house, [3, 2], kind, rows[:at] + rows[at + 1:]),
                             ("NotCovered", at, row[0]))
        self.assertEqual(paper_bound(house, [3, 2], kind, rows), sum(separate_losses(house, [3, 2], kind)))

    def test_rows_are_checked_before_corners(self):
        row = ({"a": 0, "b": 5}, [], [0, 0, 5])
        self.assertEqual(told(paper_bound, PLANS, 0, SQUARE, [row, row, ({"a": 0}, [], [0, 0, 5])]), ("InvalidRow", 2))
        self.assertEqual(told(paper_bound, PLANS, 0, SQUARE, [row]), ("NotCovered", 0, {"a": 3, "b": 1}))

    def test_departments_without_gauges(self):
        plans = Plans(("one", [5, 3]))
        rows = make_paper(plans, 0, menu("z", [1, 2]))
        self.assertEqual(rows, [({}, [], [3, 5, 3])])
        self.assertEqual(paper_bound(plans, 0, EMPTY, rows), 2)
        self.assertEqual(told(paper_bound, plans, 0, EMPTY, []), ("NotCovered", 0, {}))

    def test_errors_in_their_order(self):
        works = House([Works([[("h", 1)], [(2, "v")]]), Plans(5)])
        low = Kind(["h", "v"], [[(0, 1), (0, 0)]])
        for finished, decision in ((Plans("a"), -1), (House([]), [0]), (Orders([]), None)):
            self.assertEqual(told(make_paper, finished, decision, EMPTY), ("NothingOpen",))
            self.assertEqual(told(paper_bound, finished, decision, EMPTY, [({}, 5, 5)]), ("NothingOpen",))
        for bad in ([2, None], [0], None, [0, 0], [[0], None]):
            self.assertEqual(told(make_paper, works, bad, EMPTY), ("InvalidDecision", bad))
            self.assertEqual(told(paper_bound, works, bad, EMPTY, [({}, 5, 5)]), ("InvalidDecision", bad))
        for kind, error in ((EMPTY, ("MissingGauge", "h")), (menu("h", [0]), ("MissingGauge", "v")),
                            (low, ("OutOfRange", "h"))):
            self.assertEqual(told(make_paper, works, [0, None], kind), error)
            self.assertEqual(told(paper_bound, works, [0, None], kind, [({}, 5, 5)]), error)

    def test_great_numbers(self):
        house = House([Orders([("w", 3, BIG, 0, 1, BIG)], urgent=BIG), House([Plans(("one", ["a", "b"]))]),
                       Promises([1], [["j"]], fine=3)])
        kind = Kind(["a", "b", "j", "w"], [[(0, BIG), (3, BIG), (2, BIG), (5, BIG)]])
        decision = [HUGE, [0], 7]
        rows = make_paper(house, decision, kind)
        self.assertEqual(len(rows), 4)
        self.assertEqual(paper_bound(house, decision, kind, rows), loss(house, decision, kind)[0])
        far = {"a": HUGE, "b": 0, "j": HUGE, "w": 0}
        more = [*rows, (far, house.after(decision).finish(far), house.certificate(far))]
        self.assertEqual(paper_bound(house, decision, kind, more), house.regret(decision, far))


if __name__ == "__main__":
    unittest.main()

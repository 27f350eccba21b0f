"""Small houses for the tests, and slow but plain models of what departments and houses cost."""

from itertools import product

from everyfuture.houses import House
from everyfuture.orders import Orders
from everyfuture.plans import Plans
from everyfuture.promises import Promises
from everyfuture.works import Works
from tests.brute import futures_of, small_kind
from tests.test_orders import random_orders
from tests.test_plans import random_plans
from tests.test_promises import random_promises
from tests.test_works import random_works

MAKERS = (random_orders, random_plans, random_promises, random_works)


def is_row(department):
    return isinstance(department, (Orders, Promises))


def named(reading, mark):
    """Return the reading with a mark in front of the name if it is a gauge."""
    return mark + reading if isinstance(reading, str) else reading


def named_term(term, mark):
    return (term[0], [named_term(part, mark) for part in term[1]]) if isinstance(term, tuple) else named(term, mark)


def marked(part, mark):
    """Return the department with a mark in front of the names of its gauges."""
    if isinstance(part, Orders):
        periods = [(named(row[0], mark), named(row[1], mark), *row[2:]) for row in part.periods]
        return Orders(periods, stock=part.stock, urgent=part.urgent, placed=part.placed)
    if isinstance(part, Plans):
        return Plans(named_term(part.term, mark), placed=part.placed)
    if isinstance(part, Works):
        return Works([[(named(hours, mark), named(worth, mark)) for hours, worth in project]
                      for project in part.projects], placed=part.placed)
    table = [[named(reading, mark) for reading in row] for row in part.table]
    return Promises(part.rates, table, fine=part.fine, placed=part.placed)


def some_decisions(part):
    """Return some decisions that a department, which is no house, allows."""
    return [decision for decision in range(12) if part.allows(decision)]


def random_part(dice, mark, most=3, makers=MAKERS):
    """Return a small department, which may be finished, with at most so many gauges that begin with the mark."""
    while True:
        part = dice.choice(makers)(dice)[0]
        while not part.is_finished() and dice.random() < 0.3:
            part = part.after(dice.choice(some_decisions(part)[:4]))
        # Completions are counted out below, so there must not be too many of them.
        if len(part.gauges) <= most and (not isinstance(part, Works) or len(part.finish(ones(part))) <= 4):
            return marked(part, mark)


def ones(part):
    return {gauge: 1 for gauge in part.gauges}


def random_house(dice, mark="", depth=2, most=4, makers=MAKERS):
    """Return a small house with at most so many gauges; it may be empty or finished, and have houses within it."""
    parts = []
    for at in range(dice.choice((0, 1, 2, 2, 3, 3))):
        left = most - sum(len(part.gauges) for part in parts)
        if depth and dice.random() < 0.25:
            parts.append(random_house(dice, f"{mark}{'xyz'[at]}", depth - 1, left, makers))
        else:
            parts.append(random_part(dice, f"{mark}{'pqr'[at]}", min(2, left), makers))
    return House(parts)


def open_house(dice, **named_values):
    """Return a small house that is not finished and has a gauge."""
    while True:
        house = random_house(dice, **named_values)
        if house.gauges and not house.is_finished():
            return house


def kind_of(dice, department, most=40, top=4):
    """Return a small kind for the department that has one gauge more; sometimes it is a product."""
    least = 1 if department.hour_gauges else 0
    gauges = [*department.gauges, "zz"]
    return small_kind(dice, gauges, top, most, least)


def random_decision(dice, department, share=0.3):
    """Return an allowed decision; each entry of that of a house is None with this share."""
    if not isinstance(department, House):
        return dice.choice(some_decisions(department))
    return [None if part.is_finished() or dice.random() < share else random_decision(dice, part, share)
            for part in department.parts]


def leaves_of(department):
    """Return the departments that are no houses, in order."""
    if isinstance(department, House):
        return [leaf for part in department.parts for leaf in leaves_of(part)]
    return [department]


def completions_of(department, top):
    """Return all completions with orders and limits up to top, for a house all combinations of them."""
    if isinstance(department, House):
        return [list(row) for row in product(*[completions_of(part, top) for part in department.parts])]
    if department.is_finished():
        return [[]]
    rows = []
    for decision in (range(top + 1) if is_row(department) else some_decisions(department)):
        rows += [[decision, *rest] for rest in completions_of(department.after(decision), top)]
    return rows


def day_regret(department, decision, future):
    """Return the regret of a decision as the words of point 18 say."""
    return department.after(decision).least(future) - department.least(future)


def own_futures(department, kind):
    return futures_of(kind.onto(department.gauges))


def loss_by_words(department, decision, kind):
    """Return the greatest regret of the decision over all futures of a small kind."""
    return max(day_regret(department, decision, future) for future in own_futures(department, kind))

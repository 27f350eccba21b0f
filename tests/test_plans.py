"""Points 8, 17 to 20, 22 and 33 to 35: plans."""

import random
import unittest

from everyfuture.ends import ends
from everyfuture.kinds import Kind
from everyfuture.plans import Plans
from tests.brute import BIG, HUGE, futures_of, random_boxes, told
from tests.departments import WRONG_FORMS, DepartmentChecks

NESTED = ("all", ["a", ("one", [("all", ["b", ("one", [1, "c"])]), "d", 7]), ("one", ["e", ("all", [])])])


def replaced(term, decision):
    """Return the term with its first "one" replaced by one of its parts, and whether there was any."""
    if not isinstance(term, tuple):
        return term, False
    if term[0] == "one":
        return term[1][decision], True
    parts, found = [], False
    for part in term[1]:
        if not found:
            part, found = replaced(part, decision)
        parts.append(part)
    return ("all", tuple(parts)), found


def first_one(term):
    """Return the first "one" of the term, in the order of the nodes, or None."""
    if not isinstance(term, tuple) or term[0] == "one":
        return term if isinstance(term, tuple) else None
    return next((first_one(part) for part in term[1] if first_one(part) is not None), None)


def cost_by_words(term, future):
    """Return the cost of a term in which nothing is left to be chosen."""
    if isinstance(term, tuple):
        assert term[0] == "all"
        return sum(cost_by_words(part, future) for part in term[1])
    return future[term] if isinstance(term, str) else term


def outcomes(term):
    """Return a dict with each completion of the term, a tuple, and the term that it leads to."""
    one = first_one(term)
    if one is None:
        return {(): term}
    return {(decision, *rest): left for decision in range(len(one[1]))
            for rest, left in outcomes(replaced(term, decision)[0]).items()}


def costs_of(term, future):
    return {decisions: cost_by_words(left, future) for decisions, left in outcomes(term).items()}


def nodes(term):
    """Return the nodes of the term with the numbers of their parts."""
    found = [[term, []]]
    if isinstance(term, tuple):
        for part in term[1]:
            inner = nodes(part)
            found[0][1].append(len(found))
            found += [[node, [number + len(found) for number in parts]] for node, parts in inner]
    return found


def random_term(dice, names, depth):
    if depth == 0 or dice.random() < 0.25:
        return names.pop() if names and dice.random() < 0.7 else dice.randint(0, 6)
    word = dice.choice(("all", "one"))
    return word, tuple(random_term(dice, names, depth - 1) for _ in range(dice.randint(word == "one", 3)))


def random_plans(dice):
    """Return small plans, and a future for them."""
    names = [f"{letter}{at}" for letter in "ab" for at in range(12)]
    dice.shuffle(names)
    while True:
        term = random_term(dice, list(names), 3)
        if len(outcomes(term)) <= 60:
            break
    plans = Plans(term)
    return plans, {"z": -3, **{gauge: dice.randint(0, 8) for gauge in plans.gauges}}


class Creation(unittest.TestCase):
    def test_attributes(self):
        plans = Plans(("one", ["b", ("all", ["a", 3, ("all", [])])]))
        self.assertEqual(plans.term, ("one", ("b", ("all", ("a", 3, ("all", ()))))))
        self.assertEqual((plans.placed, plans.gauges, plans.hour_gauges), ((), ("a", "b"), ()))
        placed = Plans(NESTED, placed=[0, 1])
        self.assertEqual(placed.term, Plans(NESTED).term)
        self.assertEqual((placed.placed, placed.gauges), ((0, 1), ("a", "b", "c", "e")))
        self.assertEqual((Plans(5).term, Plans("a").term, Plans(("all", [])).term), (5, "a", ("all", ())))

    def test_lists_become_tuples_at_every_depth(self):
        term = ("all", [("one", [("all", [1, "a"]), ("one", ("b", 2))])])
        self.assertEqual(repr(Plans(term).term), "('all', (('one', (('all', (1, 'a')), ('one', ('b', 2)))),))")

    def test_the_first_wrong_node(self):
        for bad in (-1, -HUGE, "", "A", "1a", "a b", "abcdefghi", "a\n", ("one", []), ("one", ()), ("any", [1]),
                    ("", [1]), ("a", ["b"]), ("One", [1]), ("all ", [])):
            self.assertEqual(told(Plans, bad), ("InvalidTerm", 0), bad)
            self.assertEqual(told(Plans, ("all", [bad])), ("InvalidTerm", 1), bad)
            self.assertEqual(told(Plans, ("one", [("all", [1, ("one", ["a", "b"]), 2]), bad, -1])),
                             ("InvalidTerm", 7), bad)
            self.assertEqual(told(Plans, ("one", [("all", [1, ("one", ["a", bad, -1]), bad]), bad])),
                             ("InvalidTerm", 5), bad)
        self.assertEqual(told(Plans, ("one", [("any", [-1, -1]), -1])), ("InvalidTerm", 1))
        self.assertEqual(told(Plans, ("any", [("one", [])])), ("InvalidTerm", 0))

    def test_terms_that_are_fine(self):
        for term in (0, HUGE, "a", "all", "one", "abcdefgh", ("all", []), ("one", [0]), ("one", [("all", [])]),
                     ("all", ["one", "all"]), ("one", ["all", ("one", ["one"])])):
            self.assertIsNone(told(Plans, term), term)

    def test_gauges_with_the_names_of_words(self):
        plans = Plans(("one", ["one", ("all", ["all", 2])]))
        self.assertEqual((plans.gauges, plans.least({"one": 5, "all": 1})), (("all", "one"), 3))
        self.assertEqual(plans.after(0).chosen(), "one")
        self.assertIs(plans.after(0).is_finished(), True)
        self.assertEqual(plans.after(0).least({"one": 5}), 5)

    def test_the_first_gauge_that_is_read_again(self):
        self.assertEqual(told(Plans, ("all", ["b", ("one", ["c", "a", ("all", ["c"])]), "b", "a"])),
                         ("SharedGauge", "c"))
        self.assertEqual(told(Plans, ("one", ["a", "b", "b", "a"])), ("SharedGauge", "b"))

    def test_the_order_of_errors(self):
        self.assertEqual(told(Plans, ("all", ["a", "a", -1]), placed=[0]), ("InvalidTerm", 3))
        self.assertEqual(told(Plans, ("all", ["a", "a"]), placed=[0]), ("SharedGauge", "a"))
        self.assertEqual(told(Plans, ("all", ["a"]), placed=[0]), ("InvalidPlan", 0))

    def test_placed_decisions_that_cannot_be_placed(self):
        for bad in (*WRONG_FORMS, 3, HUGE):
            self.assertEqual(told(Plans, NESTED, placed=[bad, bad]), ("InvalidPlan", 0), bad)
        for placed, index in (([0, 2], 1), ([0, 1, 2], 2), ([0, 1, 1, 0], 3), ([1, 2, 0], 1), ([2, 0, 0], 2),
                              ([0, None], 1), ([1, [0]], 1)):
            self.assertEqual(told(Plans, NESTED, placed=placed), ("InvalidPlan", index), placed)
        self.assertEqual(Plans(NESTED, placed=(0, 1, 1)).placed, (0, 1, 1))

    def test_nothing_is_tied(self):
        inner, parts, placed = ["a", 3], [], [0]
        parts += [("one", inner), 4]
        term = ("all", parts)
        plans = Plans(term, placed=placed)
        inner[0] = "b"
        parts.append(-1)
        placed.append(7)
        self.assertEqual((plans.term, plans.placed, plans.gauges), (("all", (("one", ("a", 3)), 4)), (0,), ("a",)))
        self.assertEqual((plans.chosen(), plans.least({"a": 1})), (("all", ("a", 4)), 5))


class Placing(unittest.TestCase, DepartmentChecks):
    def test_decisions_of_the_right_form(self):
        plans = Plans(NESTED)
        for decision in (0, 1, 2):
            self.assertIs(plans.allows(decision), True)
        for decision in (*WRONG_FORMS, 3, HUGE, (), (0,)):
            self.assertIs(plans.allows(decision), False, decision)
            self.assertIs(Plans("a").allows(decision), False, decision)
        self.assertIs(Plans("a").allows(0), False)

    def test_placing_one_after_another(self):
        plans = Plans(NESTED)
        first = plans.after(0)
        second = first.after(1)
        third = second.after(0)
        self.assertEqual([part.placed for part in (plans, first, second, third)], [(), (0,), (0, 1), (0, 1, 0)])
        self.assertEqual([part.is_finished() for part in (plans, first, second, third)], [False] * 3 + [True])
        self.assertEqual([part.gauges for part in (plans, first, second, third)],
                         [("a", "b", "c", "d", "e"), ("a", "b", "c", "e"), ("a", "b", "c", "e"), ("a", "b", "c", "e")])
        self.assertEqual(second.after(1).gauges, ("a", "b", "c"))
        self.assertEqual(plans.after(1).gauges, ("a", "d", "e"))
        self.assertEqual(plans.after(2).after(1).gauges, ("a",))
        for part in (first, second, third):
            self.assertIs(type(part), Plans)
            self.assertEqual((part.term, part.hour_gauges), (plans.term, ()))

    def test_chosen_terms(self):
        plans = Plans(NESTED)
        last = ("one", ("e", ("all", ())))
        self.assertEqual(plans.chosen(), plans.term)
        self.assertEqual(plans.after(0).chosen(), ("all", ("a", ("all", ("b", ("one", (1, "c")))), last)))
        self.assertEqual(plans.after(1).chosen(), ("all", ("a", "d", last)))
        self.assertEqual(plans.after(2).after(1).chosen(), ("all", ("a", 7, ("all", ()))))
        self.assertEqual(Plans(("one", [("one", [1, 2]), 3])).after(0).chosen(), ("one", (1, 2)))
        self.assertEqual(Plans(3).chosen(), 3)

    def test_chosen_terms_against_the_words(self):
        dice = random.Random(80)
        for _ in range(150):
            plans, _ = random_plans(dice)
            term = plans.term
            while first_one(term) is not None:
                decision = dice.randrange(len(first_one(term)[1]))
                term, plans = replaced(term, decision)[0], plans.after(decision)
                self.assertEqual(plans.chosen(), term)
                read = [node for node, _ in nodes(term) if isinstance(node, str)]
                self.assertEqual(plans.gauges, tuple(sorted(read)))
            self.assertIs(plans.is_finished(), True)

    def test_errors_of_the_three_methods(self):
        plans = Plans(("one", ["b", ("all", ["a"])]))
        self.check_three_methods(plans, plans.after(0), 1, (*WRONG_FORMS, 2, HUGE), "a")


class Futures(unittest.TestCase, DepartmentChecks):
    def test_missing_gauges_come_before_values(self):
        for plans in (Plans(NESTED), Plans(NESTED, placed=[0]), Plans(NESTED, placed=[1]), Plans(NESTED, placed=[2, 1]),
                      Plans(NESTED, placed=[0, 0, 0])):
            completion = plans.finish({gauge: 0 for gauge in "abcde"})
            certificate = [0] * len(nodes(plans.chosen()))
            calls = [plans.least, plans.finish, plans.certificate, lambda future: plans.cost(completion, future),
                     lambda future: plans.bound(certificate, future)]
            if completion:
                calls += [lambda future: plans.regret(0, future), lambda future: plans.level(future, -1),
                          lambda future: plans.level(future, 0)]
            self.check_futures(plans, calls, {gauge: 0 for gauge in plans.gauges})

    def test_errors_before_those_of_the_future(self):
        plans = Plans(("one", ["a", "b"]))
        self.assertEqual(told(plans.after(0).level, {}, 0), ("NothingOpen",))
        self.assertEqual(told(plans.cost, [], {}), ("InvalidPlan", 0))
        self.assertEqual(told(plans.bound, None, {}), ("MissingGauge", "a"))
        self.assertEqual(told(plans.bound, None, {"a": 0, "b": -1}), ("OutOfRange", "b"))
        self.assertEqual(told(plans.bound, None, {"a": 0, "b": 0}), ("InvalidCertificate", 0))

    def test_gauges_that_the_result_does_not_depend_on(self):
        plans = Plans(("one", [0, "a"]))
        self.assertEqual(told(plans.least, {}), ("MissingGauge", "a"))
        self.assertEqual(told(plans.cost, [0], {}), ("MissingGauge", "a"))
        self.assertEqual(plans.after(0).least({}), 0)

    def test_passed_futures_and_returned_lists_are_not_tied(self):
        plans, future = Plans(NESTED), {gauge: 9 - at for at, gauge in enumerate("zabcde")}
        calls = (plans.finish, plans.certificate, lambda told: plans.level(told, HUGE), lambda _: plans.directions(0))
        self.check_untied(plans, calls, future)
        plans.directions(1)[0]["a"] = 7
        self.assertEqual(plans.directions(1), [{"a": -1, "b": -1, "c": -1, "d": 1, "e": -1}])


class Costs(unittest.TestCase, DepartmentChecks):
    def test_costs_of_completions(self):
        dice = random.Random(81)
        for _ in range(100):
            plans, future = random_plans(dice)
            for decisions, left in outcomes(plans.term).items():
                cost = cost_by_words(left, future)
                self.assertEqual(plans.cost(list(decisions), future), cost)
                self.assertEqual(plans.cost(decisions, future), cost)

    def test_lists_that_are_no_completion(self):
        plans = Plans(NESTED)
        future = {gauge: 1 for gauge in "abcde"}
        for decisions, index in (([], 0), ([0], 1), ([0, 0], 2), ([0, 0, 0, 0], 3), ([1], 1), ([1, 0, 0], 2), ([3], 0),
                                 ([0, 2, 0], 1), ([1, None], 1), ([[1], 0], 0), ([-1], 0), ((1, 2), 1), (None, 0),
                                 (5, 0), (-5, 0), ([0, 0, HUGE], 2), ([None] * 9, 0)):
            self.assertEqual(told(plans.cost, decisions, future), ("InvalidPlan", index), decisions)
        self.assertEqual(plans.cost([1, 1], future), 2)
        self.assertEqual(plans.cost((0, 0, 0), future), 4)
        self.assertEqual(told(Plans(2).cost, [0], {}), ("InvalidPlan", 0))
        self.assertEqual(told(Plans(2).cost, None, {}), ("InvalidPlan", 0))
        self.assertEqual(Plans(2).cost([], {}), 2)

    def test_least_costs_and_more_against_all_completions(self):
        dice = random.Random(82)
        for _ in range(150):
            plans, future = random_plans(dice)
            while True:
                costs = costs_of(plans.chosen(), future)
                self.check_all_choices(plans, future, costs)
                least = min(costs.values())
                self.assertEqual(plans.finish(future), list(min(row for row in costs if costs[row] == least)))
                if plans.is_finished():
                    break
                plans = plans.after(dice.choice([row[0] for row in costs]))

    def test_levels(self):
        plans = Plans(("one", [4, "a", 4, 5, 9, "b"]))
        self.assertEqual([plans.level({"a": 4, "b": 6}, limit) for limit in (-HUGE, -1, 0, 1, 2, 5, HUGE)],
                         [[], [], [(0, 2)], [(0, 3)], [(0, 3), (5, 5)], [(0, 5)], [(0, 5)]])

    def test_a_choice_with_one_part_is_open(self):
        plans = Plans(("one", [("one", ["a"])]))
        self.assertEqual((plans.is_finished(), plans.finish({"a": 3}), plans.level({"a": 3}, 0)),
                         (False, [0, 0], [(0, 0)]))


class Directions(unittest.TestCase, DepartmentChecks):
    def test_signs(self):
        plans = Plans(NESTED)
        for decision, dearer in ((0, "bc"), (1, "d"), (2, "")):
            signs = plans.directions(decision)
            self.assertEqual(signs, [{gauge: 1 if gauge in dearer else -1 for gauge in "abcde"}])
            self.assertEqual(list(signs[0]), list("abcde"))
        self.assertEqual(plans.after(0).directions(1), [{"a": -1, "b": -1, "c": 1, "e": -1}])
        self.assertEqual(Plans(("one", [1, 2])).directions(1), [{}])

    def test_regrets_never_fall_in_the_direction(self):
        dice = random.Random(83)
        pairs = 0
        for _ in range(150):
            plans, _ = random_plans(dice)
            while not plans.is_finished():
                decision = dice.randrange(len(first_one(plans.chosen())[1]))
                pairs += self.check_direction(dice, plans, decision, 8)
                plans = plans.after(decision)
        self.assertGreater(pairs, 500)

    def test_the_greatest_regret_is_that_of_an_end(self):
        plans = Plans(("all", ["d", ("one", [("all", ["a", 2]), ("one", ["b", 6]), ("all", ["c", 1])])]))
        dice = random.Random(84)
        for _ in range(20):
            kind = Kind(list("abcd"), random_boxes(dice, 4, 5, 3))
            for decision in (0, 1, 2):
                regrets = [plans.regret(decision, future) for future in futures_of(kind)]
                corners = ends(kind, plans.directions(decision)[0])
                self.assertEqual(max(regrets), max(plans.regret(decision, future) for future in corners))


class Certificates(unittest.TestCase):
    def fault_by_words(self, plans, certificate, future):
        """Return the number of the first node whose condition of point 35 does not hold, or None."""
        for number, (node, parts) in enumerate(nodes(plans.chosen())):
            if not isinstance(node, tuple):
                most = cost_by_words(node, future)
            elif node[0] == "all":
                most = sum(certificate[part] for part in parts)
            else:
                most = min(certificate[part] for part in parts)
            if certificate[number] > most:
                return number
        return None

    def test_those_of_the_program(self):
        dice = random.Random(85)
        for _ in range(200):
            plans, future = random_plans(dice)
            while True:
                certificate = plans.certificate(future)
                self.assertEqual(len(certificate), len(nodes(plans.chosen())))
                self.assertIsNone(self.fault_by_words(plans, certificate, future))
                self.assertEqual(plans.bound(certificate, future), plans.least(future))
                if plans.is_finished():
                    break
                plans = plans.after(dice.randrange(len(first_one(plans.chosen())[1])))

    def test_those_of_strangers(self):
        dice = random.Random(86)
        valid = faults = 0
        for _ in range(1500):
            plans, future = random_plans(dice)
            certificate = [number - dice.choice((0, 0, 0, 0, 1, 2, -1)) for number in plans.certificate(future)]
            fault = self.fault_by_words(plans, certificate, future)
            if fault is None:
                valid += 1
                self.assertEqual(plans.bound(tuple(certificate), future), certificate[0])
                self.assertLessEqual(certificate[0], plans.least(future))
            else:
                faults += 1
                self.assertEqual(told(plans.bound, certificate, future), ("InvalidCertificate", fault))
        self.assertGreater(min(valid, faults), 200)

    def test_each_condition_exactly_met_and_missed_by_one(self):
        plans = Plans(("all", [("one", ["a", ("all", ["b", 3])]), ("all", []), 2]))
        future = {"a": 4, "b": 2}
        good = [6, 4, 4, 5, 2, 3, 0, 2]
        self.assertEqual(plans.bound(good, future), 6)
        self.assertEqual(plans.bound([-HUGE, -1, 3, 0, 1, 2, -7, 1], future), -HUGE)
        for bad, fault in (([7, 4, 4, 5, 2, 3, 0, 2], 0), ([6, 5, 4, 5, 2, 3, 0, 2], 1), ([6, 4, 3, 5, 2, 3, 0, 2], 1),
                           ([6, 4, 5, 5, 2, 3, 0, 2], 2), ([6, 4, 4, 6, 2, 3, 0, 2], 3), ([6, 4, 4, 5, 1, 3, 0, 2], 3),
                           ([6, 4, 4, 5, 3, 3, 0, 2], 4), ([6, 4, 4, 5, 2, 4, 0, 2], 5), ([6, 4, 4, 5, 2, 3, 1, 2], 6),
                           ([6, 4, 4, 5, 2, 3, 0, 3], 7), ([6, 4, 4, 3, 2, 3, 0, 2], 1), ([6, 4, 4, 5, 2, 3, 0, 1], 0),
                           ([6, 4, 4, 5, 2, 3, -1, 2], 0)):
            self.assertEqual(told(plans.bound, bad, future), ("InvalidCertificate", fault), bad)

    def test_wrong_forms(self):
        plans = Plans(("one", ["a", 3]))
        for certificate, index in ((None, 0), (3, 0), ([], 0), ([0], 1), ([0, 0], 2), ([0, 0, 0, 0], 3),
                                   ([None] * 9, 3), ([0, None, 99], 1), ([99, 0, []], 2), ([[0], None, 0], 0),
                                   ([0, 0, [0]], 2), ((99, (), 0), 1), ([99, 0, 0], 0)):
            self.assertEqual(told(plans.bound, certificate, {"a": 1}), ("InvalidCertificate", index), certificate)
        self.assertEqual(plans.bound((0, 0, 0), {"a": 1}), 0)

    def test_finished_plans(self):
        plans = Plans(("one", ["a", ("all", ["b", 3])]), placed=[1])
        self.assertEqual(plans.bound(plans.certificate({"b": 2}), {"b": 2}), 5)
        self.assertEqual(plans.bound([4, 1, 3], {"b": 2}), 4)
        self.assertEqual(told(plans.bound, [], {"b": 2}), ("InvalidCertificate", 0))
        self.assertEqual(told(plans.bound, [5, 2, 4], {"b": 2}), ("InvalidCertificate", 2))
        self.assertEqual(Plans(("all", [])).bound([0], {}), 0)

    def test_a_passed_certificate_stays(self):
        certificate = [1, 2, 1]
        Plans(("one", [2, 1])).bound(certificate, {})
        self.assertEqual(certificate, [1, 2, 1])


class Great(unittest.TestCase):
    def test_sixty_nodes_and_twenty_four_prices(self):
        choices = [("one", [f"a{at}", f"b{at}"]) for at in range(12)]
        plans = Plans(("all", choices + [("all", [])] * 23))
        self.assertEqual(len(nodes(plans.term)), 60)
        future = {f"a{at}": BIG - at for at in range(12)} | {f"b{at}": BIG - (at * 5 + 3) % 12 for at in range(12)}
        least = [min(future[f"a{at}"], future[f"b{at}"]) for at in range(12)]
        self.assertEqual(plans.least(future), sum(least))
        self.assertEqual(plans.finish(future), [int(future[f"b{at}"] < future[f"a{at}"]) for at in range(12)])
        self.assertEqual(plans.bound(plans.certificate(future), future), sum(least))
        for at in range(12):
            self.assertEqual(plans.regret(0, future), future[f"a{at}"] - least[at])
            plans = plans.after(0)
        self.assertEqual(len(plans.gauges), 12)
        self.assertEqual(told(Plans, ("all", choices + [("all", [])] * 22 + [("one", [])])), ("InvalidTerm", 59))

    def test_one_choice_between_many_parts(self):
        plans = Plans(("one", [("all", [at]) if at % 2 else ("all", []) for at in range(40)]))
        self.assertEqual(plans.level({}, 3), [(0, 4), *[(at, at) for at in range(6, 40, 2)]])
        self.assertEqual(plans.after(39).least({}), 39)

    def test_twelve_tuples_within_one_another(self):
        term = "g"
        for at in range(12):
            term = ("one", [at + 20, term]) if at % 2 else ("all", [term, BIG])
        plans = Plans(term)
        self.assertEqual(plans.least({"g": 0}), 31)
        self.assertEqual(plans.finish({"g": 0}), [0])
        while not plans.is_finished():
            plans = plans.after(1)
        self.assertEqual((plans.placed, plans.least({"g": HUGE})), ((1,) * 6, HUGE + 6 * BIG))
        self.assertEqual(told(Plans, ("all", [term, "g"])), ("SharedGauge", "g"))

    def test_great_numbers(self):
        plans = Plans(("all", [("one", ["a", BIG]), ("one", [HUGE, "b"]), BIG]))
        future = {"a": HUGE, "b": 10 * HUGE + 1}
        self.assertEqual((plans.least(future), plans.regret(0, future)), (2 * BIG + HUGE, HUGE - BIG))
        self.assertEqual(plans.after(0).regret(1, future), 9 * HUGE + 1)
        self.assertEqual(plans.level(future, HUGE - BIG - 1), [(1, 1)])
        self.assertEqual(plans.level(future, HUGE - BIG), [(0, 1)])
        self.assertEqual(plans.bound(plans.certificate(future), future), plans.least(future))


class Interface(unittest.TestCase):
    def test_equal_arguments_give_equal_results(self):
        first, second = Plans(NESTED), Plans(Plans(NESTED).term)
        future = {gauge: at for at, gauge in enumerate("edcba")}
        self.assertEqual(first.certificate(future), second.certificate(dict(sorted(future.items()))))
        self.assertEqual(first.finish(future), second.finish({**future, "z": 1}))

    def test_listed_methods_stand_in_the_class(self):
        for name in ("is_finished", "allows", "after", "regret", "directions", "least", "level", "finish", "cost",
                     "certificate", "bound", "chosen"):
            self.assertIn(name, vars(Plans))
        for name in ("term", "placed", "gauges", "hour_gauges"):
            self.assertIn(name, vars(Plans(3)))


if __name__ == "__main__":
    unittest.main()

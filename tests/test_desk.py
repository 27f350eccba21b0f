"""Points 68 to 72: the desk."""

import random
import unittest

from everyfuture.days import least_day
from everyfuture.desk import Desk
from everyfuture.houses import House
from everyfuture.keeping import least_limit
from everyfuture.kinds import Kind, menu
from everyfuture.losses import loss
from everyfuture.orders import Orders
from everyfuture.plans import Plans
from everyfuture.promises import Promises
from everyfuture.works import Works
from tests.brute import BIG, HUGE, error_of, futures_of, told
from tests.houses import kind_of, leaves_of, open_house, random_decision, random_house
from tests.test_promises import random_promises, shortfall_by_words, totals_of

PLANS = Plans(("one", ["a", ("all", ["b", ("one", ["c", 2])])]))
PROMISES = Promises([2, 1], [["j", 1]], fine=4)
HOUSE = House([PLANS, House([PROMISES, Plans(3)])])
KIND = Kind(["a", "b", "c", "j", "u"], [[(0, 4), (1, 3), (0, 3), (2, 3), (5, 6)]])
EMPTY = Kind([], [[]])


def lists_of(value):
    """Return the nested list with lists for tuples."""
    return [lists_of(part) for part in value] if isinstance(value, (list, tuple)) else value


def shown(house):
    """Return what is placed in a house, and what it consists of."""
    return [(type(leaf), leaf.placed, leaf.gauges) for leaf in leaves_of(house)]


def picture(desk):
    """Return all that a desk shows."""
    return shown(desk.house), desk.kind.gauges, desk.kind.cells, desk.told, desk.busy, list(desk), shown(desk.start)


class Model:
    """What a desk should do, with all states kept."""

    def __init__(self, house, kind):
        self.states = [(house, kind, 0)]
        self.deeds = []
        self.at = 0

    def do(self, deed, state):
        self.states = self.states[:self.at + 1] + [state]
        self.deeds = self.deeds[:self.at] + [deed]
        self.at += 1

    def carry_out(self, command):
        """Carry out a good command and return what it should return."""
        house, kind, amount = self.states[self.at]
        if command[0] == "decide":
            more = loss(house, command[1], kind)[0]
            self.do(("decide", lists_of(command[1])), (house.after(command[1]), kind, amount + more))
            return more
        if command[0] == "learn":
            self.do(tuple(command), (house, kind.cut(command[1], low=command[2], high=command[3]), amount))
            return None
        step = -1 if command[0] == "undo" else 1
        if not 0 <= self.at + step < len(self.states):
            return False
        self.at += step
        return True

    def picture(self):
        house, kind, amount = self.states[self.at]
        return (shown(house), kind.gauges, kind.cells, amount, False, self.deeds[:self.at], shown(self.states[0][0]))


def random_command(dice, model, bad=0.0):
    """Return a command; with this share it is one that raises an error."""
    house, kind, _ = model.states[model.at]
    word = dice.choice(("decide", "decide", "learn", "undo", "redo"))
    gauge = dice.choice(kind.gauges)
    low, high = sorted((dice.randint(*kind.span(gauge)), dice.randint(*kind.span(gauge))))
    if dice.random() < bad:
        return dice.choice([("decide", [-1]), ("decide", None), ("learn", "nix", None, 3), ("learn", gauge, HUGE, None),
                            ("learn", gauge, None, -1), ("learn", gauge, high + 1, low)])
    if word == "decide" and not house.is_finished():
        return word, random_decision(dice, house, 0.4)
    if word in ("decide", "learn"):
        good = [value for value in range(low, high + 1) if value in [future[gauge] for future in futures_of(kind)]]
        ends = (good[0], good[-1]) if good else kind.span(gauge)
        return ("learn", gauge, dice.choice((None, ends[0])), dice.choice((None, ends[1])))
    return (word,)


def carry_out(desk, command):
    """Carry out a command by the method of the desk."""
    if command[0] == "decide":
        return desk.decide(command[1])
    if command[0] == "learn":
        return desk.learn(command[1], low=command[2], high=command[3])
    return desk.undo() if command[0] == "undo" else desk.redo()


class Beginning(unittest.TestCase):
    def test_attributes(self):
        desk = Desk(HOUSE, KIND)
        self.assertIs(desk.start, HOUSE)
        self.assertEqual(shown(desk.house), shown(HOUSE))
        self.assertEqual((desk.kind, desk.told, list(desk)), (KIND, 0, []))
        self.assertIs(desk.busy, False)
        self.assertEqual((desk.undo(), desk.redo()), (False, False))
        self.assertIs(type(desk.told), int)

    def test_errors_in_their_order(self):
        works = House([Works([[("h", "v")]]), PLANS])
        self.assertEqual(told(Desk, works, EMPTY), ("MissingGauge", "a"))
        self.assertEqual(told(Desk, works, KIND), ("MissingGauge", "h"))
        self.assertEqual(told(Desk, works, KIND * menu("h", [0])), ("MissingGauge", "v"))
        self.assertEqual(told(Desk, works, KIND * menu("h", [0, 3]) * menu("v", [0])), ("OutOfRange", "h"))
        self.assertIsNone(told(Desk, works, KIND * menu("h", [1, 3]) * menu("v", [0])))

    def test_houses_without_departments_and_finished_houses(self):
        for house in (House([]), House([Plans("a"), House([])])):
            desk = Desk(house, KIND)
            self.assertEqual(told(desk.decide, []), ("NothingOpen",))
            self.assertEqual(told(desk.decide, 7), ("NothingOpen",))
            self.assertIsNone(desk.learn("u", low=6))
            self.assertEqual(desk.account(KIND.complete({"u": 6}))[0], house.least({"a": 0}))
            self.assertIs(desk.kept(), True)


class Deeds(unittest.TestCase):
    def test_decide(self):
        desk = Desk(HOUSE, KIND)
        decision = [1, [4, None]]
        amount = loss(HOUSE, decision, KIND)[0]
        self.assertGreater(amount, 0)
        self.assertEqual(desk.decide(decision), amount)
        self.assertEqual((desk.told, desk.kind, list(desk)), (amount, KIND, [("decide", [1, [4, None]])]))
        self.assertEqual([leaf.placed for leaf in leaves_of(desk.house)], [(1,), (4,), ()])
        self.assertEqual([leaf.placed for leaf in leaves_of(desk.start)], [(), (), ()])
        # The kind keeps its gauges, even those that no department reads any more.
        self.assertEqual((desk.house.gauges, desk.kind.gauges), (("b", "c", "j"), KIND.gauges))
        more = desk.decide((0, (None, None)))
        self.assertEqual((more, desk.told), (loss(HOUSE.after(decision), [0, None], KIND)[0], amount + more))
        self.assertEqual(list(desk)[1], ("decide", [0, [None, None]]))

    def test_learn(self):
        desk = Desk(HOUSE, KIND)
        self.assertIsNone(desk.learn("a", low=2))
        self.assertIsNone(desk.learn("u", low=None, high=5))
        self.assertIsNone(desk.learn("b", low=2, high=2))
        self.assertEqual(desk.kind, KIND.cut("a", low=2).cut("u", high=5).cut("b", low=2, high=2))
        self.assertEqual(list(desk), [("learn", "a", 2, None), ("learn", "u", None, 5), ("learn", "b", 2, 2)])
        self.assertEqual((desk.told, shown(desk.house)), (0, shown(HOUSE)))

    def test_errors_change_nothing(self):
        desk = Desk(HOUSE, KIND)
        desk.decide([1, None])
        desk.learn("a", low=1)
        desk.undo()
        before = picture(desk)
        for call, error in ((lambda: desk.decide([0]), ("InvalidDecision", [0])),
                            (lambda: desk.decide((2, (None, 0))), ("InvalidDecision", [2, [None, 0]])),
                            (lambda: desk.learn("nix", low=HUGE), ("MissingGauge", "nix")),
                            (lambda: desk.learn("a", low=5), ("EmptyKind",)),
                            (lambda: desk.learn("a", low=3, high=2), ("EmptyKind",)),
                            (lambda: desk.account({"a": 0}), ("NotInKind",)),
                            (lambda: desk.run([("undo",), ("decide", 3)]), ("InvalidDecision", 3))):
            self.assertEqual(told(call), error)
            self.assertEqual(picture(desk), before)
        # What was taken back before the errors can still be brought back.
        self.assertEqual((desk.redo(), desk.redo()), (True, False))

    def test_deeds_that_change_nothing_else_are_deeds(self):
        desk = Desk(HOUSE, KIND)
        desk.learn("a")
        self.assertEqual(desk.decide([None, None]), 0)
        desk.learn("a", low=0, high=BIG)
        self.assertEqual(list(desk), [("learn", "a", None, None), ("decide", [None, None]), ("learn", "a", 0, BIG)])
        self.assertEqual([desk.undo() for _ in range(4)], [True, True, True, False])
        self.assertEqual([desk.redo() for _ in range(4)], [True, True, True, False])
        self.assertEqual((desk.kind, desk.told, len(list(desk))), (KIND, 0, 3))

    def test_a_new_deed_forgets_what_was_taken_back(self):
        desk = Desk(HOUSE, KIND)
        desk.learn("a", low=1)
        desk.learn("b", low=2)
        desk.undo()
        desk.undo()
        desk.redo()
        desk.decide([None, None])
        self.assertIs(desk.redo(), False)
        self.assertEqual(list(desk), [("learn", "a", 1, None), ("decide", [None, None])])
        self.assertEqual((desk.undo(), desk.redo(), desk.redo()), (True, True, False))

    def test_against_a_model(self):
        dice = random.Random(260)
        words = []
        for _ in range(60):
            house = open_house(dice)
            kind = kind_of(dice, house, most=20)
            desk, model = Desk(house, kind), Model(house, kind)
            for _ in range(14):
                if dice.random() < 0.15:
                    before = picture(desk)
                    self.assertIsNotNone(error_of(carry_out, desk, random_command(dice, model, bad=1)))
                    self.assertEqual(picture(desk), before)
                command = random_command(dice, model)
                words.append(command[0])
                expected = model.carry_out(command)
                found = carry_out(desk, command)
                self.assertEqual((type(found), found), (type(expected), expected))
                self.assertEqual(picture(desk), model.picture())
        self.assertTrue(all(words.count(word) > 50 for word in ("decide", "learn", "undo", "redo")))

    def test_nothing_is_tied(self):
        desk = Desk(HOUSE, KIND)
        decision = [1, [4, None]]
        desk.decide(decision)
        decision[1].append(7)
        decision[0] = 0
        self.assertEqual(list(desk), [("decide", [1, [4, None]])])
        list(desk).clear()
        commands = [("decide", [0, [None, None]]), ("undo",)]
        results = desk.run(commands)
        commands[0][1].append(3)
        results.append(5)
        self.assertIs(desk.redo(), True)
        self.assertEqual(list(desk), [("decide", [1, [4, None]]), ("decide", [0, [None, None]])])
        account = desk.account(KIND.future_at(0))
        self.assertIs(type(account), tuple)


class Runs(unittest.TestCase):
    def test_runs_against_a_model(self):
        dice = random.Random(261)
        raised = 0
        for _ in range(80):
            house = open_house(dice)
            kind = kind_of(dice, house, most=20)
            desk, model = Desk(house, kind), Model(house, kind)
            for _ in range(4):
                trial = Model(house, kind)
                trial.states, trial.deeds, trial.at = model.states, model.deeds, model.at
                commands, expected = [], []
                for _ in range(dice.randint(0, 5)):
                    commands.append(random_command(dice, trial))
                    expected.append(trial.carry_out(commands[-1]))
                if dice.random() < 0.4:
                    commands.append(random_command(dice, trial, bad=1))
                    rest = [("undo",)] * dice.randint(0, 2)
                    before = picture(desk)
                    error = error_of(desk.run, commands + rest)
                    again = Desk(house, kind)
                    self.bring_to(again, model)
                    self.assertEqual(vars(error), vars(error_of(lambda: [carry_out(again, row) for row in commands])))
                    self.assertEqual(picture(desk), before)
                    self.check_history(desk, model)
                    raised += 1
                    continue
                model = trial
                self.assertEqual(desk.run(commands), expected)
                self.assertEqual(picture(desk), model.picture())
        self.assertGreater(raised, 50)

    def bring_to(self, desk, model):
        """Give the desk the deeds of the model, and take back those that the model has taken back."""
        for deed in model.deeds:
            carry_out(desk, deed)
        for _ in range(len(model.deeds) - model.at):
            desk.undo()

    def check_history(self, desk, model):
        """Check which deeds can be taken back and brought back, and leave the desk as it is."""
        back = [desk.undo() for _ in range(len(model.deeds) + 1)]
        self.assertEqual(back, [True] * model.at + [False] * (len(model.deeds) + 1 - model.at))
        self.assertEqual([desk.redo() for _ in range(len(model.deeds) + 1)], [True] * len(model.deeds) + [False])
        self.assertEqual(list(desk), model.deeds)
        for _ in range(len(model.deeds) - model.at):
            desk.undo()
        self.assertEqual(picture(desk), model.picture())

    def test_commands_of_every_kind(self):
        desk = Desk(HOUSE, KIND)
        first = desk.decide([1, None])
        results = desk.run([("undo",), ("undo",), ("redo",), ("learn", "a", 1, None), ("redo",),
                            ("decide", (0, (3, None))), ("undo",), ("undo",), ("redo",)])
        amount = loss(HOUSE.after([1, None]), [0, [3, None]], KIND.cut("a", low=1))[0]
        self.assertEqual(results, [True, False, True, None, False, amount, True, True, True])
        self.assertEqual((desk.told, list(desk)), (first, [("decide", [1, None]), ("learn", "a", 1, None)]))
        self.assertIs(desk.redo(), True)
        self.assertEqual(desk.told, first + amount)
        self.assertEqual(desk.run([]), [])
        self.assertEqual(desk.run(()), [])
        self.assertEqual(desk.run((("undo",), ("undo",), ("undo",), ("undo",))), [True, True, True, False])
        self.assertEqual((desk.told, desk.kind, list(desk)), (0, KIND, []))

    def test_an_error_at_any_place(self):
        good = [("learn", "a", 1, None), ("decide", [1, None]), ("undo",), ("undo",), ("undo",), ("redo",),
                ("decide", [None, [0, None]])]
        for at in range(len(good) + 1):
            desk = Desk(HOUSE, KIND)
            desk.decide([None, [3, None]])
            desk.learn("u", high=5)
            desk.undo()
            before = picture(desk)
            commands = good[:at] + [("decide", [0, 0])] + good[at:]
            self.assertEqual(told(desk.run, commands), ("InvalidDecision", [0, 0]))
            self.assertEqual(picture(desk), before)
            self.assertEqual((desk.redo(), desk.redo(), desk.undo(), desk.undo(), desk.undo()),
                             (True, False, True, True, False))

    def test_busy(self):
        seen = []

        class Watched(Plans):
            """Plans that tell whether the desk is busy when they are asked."""

            def allows(self, decision):
                seen.append(desk.busy)
                if decision == 9:
                    raise KeyError("nine")
                return Plans.allows(self, decision)

        house = House([Watched(("one", ["a", "b", "c"])), PROMISES])
        desk = Desk(house, KIND)
        desk.decide([None, 0])
        desk.learn("u", low=6)
        desk.undo()
        self.assertEqual(told(desk.decide, [3, None]), ("InvalidDecision", [3, None]))
        self.assertEqual(set(seen), {False})
        seen.clear()
        before = picture(desk)
        self.assertEqual(told(desk.run, [("undo",), ("decide", [3, None])]), ("InvalidDecision", [3, None]))
        self.assertEqual((set(seen), picture(desk)), ({True}, before))
        # An error of another kind leaves the desk as it was, too.
        with self.assertRaises(KeyError):
            desk.run([("undo",), ("learn", "a", 1, None), ("decide", [9, None])])
        self.assertEqual((picture(desk), desk.redo(), desk.redo()), (before, True, False))
        desk.undo()
        seen.clear()
        self.assertEqual(desk.run([("decide", [None, None])]), [0])
        self.assertIs(desk.busy, False)
        self.assertEqual(desk.run([("decide", [1, None])])[0], desk.told - 0 - loss(house, [None, 0], KIND)[0])
        self.assertEqual(set(seen), {True})


class Accounts(unittest.TestCase):
    def test_futures_that_are_not_in_the_kind(self):
        desk = Desk(HOUSE, KIND)
        future = KIND.future_at(7)
        self.assertEqual(desk.account(future), (HOUSE.least(future), HOUSE.least(future)))
        self.assertEqual(desk.account({**future, "zz": -9}), desk.account(future))
        for gauge in KIND.gauges:
            self.assertEqual(told(desk.account, {name: future[name] for name in future if name != gauge}),
                             ("NotInKind",))
            self.assertEqual(told(desk.account, {**future, gauge: -1}), ("NotInKind",))
            self.assertEqual(told(desk.account, {**future, gauge: HUGE}), ("NotInKind",))
        desk.learn("u", low=6)
        self.assertEqual(told(desk.account, {**future, "u": 5}), ("NotInKind",))
        self.assertIsNone(told(desk.account, {**future, "u": 6}))
        # A gauge that no department reads any more is a gauge of the kind all the same.
        desk.decide([1, None])
        self.assertEqual(told(desk.account, {name: 2 for name in "bcju"}), ("NotInKind",))

    def test_along_runs(self):
        dice = random.Random(262)
        dearer = tight = 0
        for _ in range(50):
            house = open_house(dice)
            kind = kind_of(dice, house, most=25)
            desk = Desk(house, kind)
            regrets = {tuple(future.items()): 0 for future in futures_of(kind)}
            while not desk.house.is_finished():
                if dice.random() < 0.4:
                    gauge = dice.choice(kind.gauges)
                    value = dice.choice(futures_of(desk.kind))[gauge]
                    desk.learn(gauge, **{dice.choice(("low", "high")): value})
                decision = (least_day(desk.house, desk.kind)[1] if dice.random() < 0.3
                            else random_decision(dice, desk.house, 0.3))
                before = desk.house
                desk.decide(decision)
                for future in futures_of(desk.kind):
                    regrets[tuple(future.items())] += before.regret(decision, future)
                    now, start = desk.account(future)
                    self.assertEqual((now, start), (desk.house.least(future), house.least(future)))
                    self.assertEqual(now - start, regrets[tuple(future.items())])
                    self.assertLessEqual(now - start, desk.told)
            for future in futures_of(desk.kind):
                rest = desk.house.finish(future)
                self.assertLessEqual(desk.house.cost(rest, future), house.least(future) + desk.told)
            dearer += desk.told > 0
            tight += desk.told > 0 and any(desk.account(future)[0] - desk.account(future)[1] == desk.told
                                           for future in futures_of(desk.kind))
        self.assertGreater(min(dearer, tight), 8)

    def test_great_numbers(self):
        house = House([Orders([("w", 3, BIG, 0, 1, BIG)], urgent=BIG), House([Plans(("one", ["a", "b"]))])])
        desk = Desk(house, Kind(["a", "b", "w"], [[(0, BIG), (3, HUGE), (5, BIG)]]))
        self.assertEqual(desk.decide([HUGE, None]), 4 * (HUGE - 5))
        desk.learn("a", low=BIG - 4)
        self.assertEqual(desk.decide([None, [1]]), HUGE - BIG + 4)
        self.assertEqual(desk.told, 5 * HUGE - BIG - 16)
        now, start = desk.account({"a": BIG - 4, "b": HUGE, "w": 5})
        self.assertEqual((now - start, start), (desk.told, 15 + BIG - 4))
        self.assertIs(desk.undo(), True)
        self.assertEqual(desk.told, 4 * (HUGE - 5))


class Kept(unittest.TestCase):
    def kept_by_words(self, house, kind):
        for leaf in leaves_of(house):
            if isinstance(leaf, Promises):
                for future in futures_of(kind):
                    if shortfall_by_words(totals_of(leaf, future), leaf.placed) > 0:
                        return False
        return True

    def test_against_all_futures(self):
        dice = random.Random(263)
        found = [0, 0]
        while min(found) < 30:
            house = random_house(dice, makers=(random_promises,))
            kind = kind_of(dice, house, most=20)
            desk = Desk(house, kind)
            self.assertIs(desk.kept(), self.kept_by_words(house, kind))
            found[desk.kept()] += 1
            if desk.kept():
                gauge = dice.choice(kind.gauges)
                desk.learn(gauge, low=dice.choice(futures_of(kind))[gauge])
                self.assertIs(desk.kept(), True)

    def test_limits_that_are_great_enough_keep_it(self):
        dice = random.Random(264)
        looked = 0
        while looked < 40:
            house = open_house(dice, makers=(random_promises,))
            desk = Desk(house, kind_of(dice, house, most=20))
            if not desk.kept():
                continue
            looked += 1
            while not desk.house.is_finished():
                desk.decide(self.great_enough(dice, desk.house, desk.kind))
                self.assertIs(desk.kept(), True)

    def great_enough(self, dice, house, kind):
        """Return a decision whose limits are at least what `least_limit` returns."""
        return [None if part.is_finished() or dice.random() < 0.2 else self.great_enough(dice, part, kind)
                if isinstance(part, House) else least_limit(part, kind)[0] + dice.choice((0, 0, 1, 5))
                for part in house.parts]

    def test_promises_in_houses_within_houses(self):
        promises = Promises([1], [["j"]], fine=1)
        house = House([Plans(3), House([House([promises]), Plans(5)])])
        desk = Desk(house, menu("j", [2, 4]))
        self.assertIs(desk.kept(), True)
        desk.decide([None, [[5], None]])
        self.assertIs(desk.kept(), False)
        desk.learn("j", high=3)
        self.assertIs(desk.kept(), True)
        desk.undo()
        self.assertIs(desk.kept(), False)
        desk.undo()
        self.assertEqual(least_limit(promises, desk.kind)[0], 6)
        desk.decide([None, [[6], None]])
        self.assertIs(desk.kept(), True)
        self.assertIs(desk.house.is_finished(), True)


if __name__ == "__main__":
    unittest.main()

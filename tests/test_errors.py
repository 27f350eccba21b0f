"""The interface of errors.py."""

import unittest

from everyfuture import errors
from everyfuture.errors import FutureError

ATTRIBUTES = {
    "InvalidGauge": ("gauge",), "OtherGauges": ("gauge",), "SharedGauge": ("gauge",), "MissingGauge": ("gauge",),
    "OutOfRange": ("gauge",), "InvalidSign": ("gauge",),
    "InvalidBox": ("index",), "InvalidPlan": ("index",), "InvalidCertificate": ("index",), "InvalidCurve": ("index",),
    "InvalidCorner": ("index",), "InvalidPeriod": ("index",), "InvalidRate": ("index",), "SplitPair": ("index",),
    "InvalidRow": ("index",),
    "EmptyKind": (), "NotInKind": (), "NothingOpen": (), "Unbounded": (),
    "InvalidAmount": ("amount",), "InvalidNumber": ("count",), "InvalidTerm": ("node",), "InvalidSlot": ("slot",),
    "NotSettled": ("value",), "InvalidText": ("line",),
    "InvalidStep": ("project", "step"),
    "InvalidDecision": ("decision",), "InvalidGroup": ("group",),
    "NotKept": ("future", "group"), "NotCovered": ("direction", "future"),
}
EXAMPLES = {
    "gauge": "a", "index": 3, "amount": -4, "count": 5, "node": 6, "slot": 7, "value": 8, "line": 9, "project": 10,
    "step": 11, "decision": [1, None], "group": [0, 2], "future": {"a": 1, "b": 2}, "direction": 12,
}


class Classes(unittest.TestCase):
    def created(self, name):
        return getattr(errors, name)(*[EXAMPLES[attribute] for attribute in ATTRIBUTES[name]])

    def test_there_are_thirty_classes_derived_directly_from_the_base(self):
        self.assertEqual(FutureError.__bases__, (ValueError,))
        found = [name for name, made in vars(errors).items() if isinstance(made, type) and made is not FutureError]
        self.assertEqual(sorted(found), sorted(ATTRIBUTES))
        self.assertEqual(len(found), 30)
        for name in found:
            self.assertEqual(getattr(errors, name).__bases__, (FutureError,), name)

    def test_no_error_is_of_another_class(self):
        for name in ATTRIBUTES:
            for other in ATTRIBUTES:
                same = isinstance(self.created(name), getattr(errors, other))
                self.assertEqual(same, name == other, (name, other))

    def test_attributes_are_kept_in_their_order(self):
        for name, attributes in ATTRIBUTES.items():
            error = self.created(name)
            self.assertEqual(vars(error), {attribute: EXAMPLES[attribute] for attribute in attributes}, name)
            with self.assertRaises(FutureError):
                raise error

    def test_two_attributes_are_not_exchanged(self):
        step = errors.InvalidStep(1, 2)
        self.assertEqual((step.project, step.step), (1, 2))
        kept = errors.NotKept({"a": 1}, [2])
        self.assertEqual((kept.future, kept.group), ({"a": 1}, [2]))
        covered = errors.NotCovered(3, {"a": 1})
        self.assertEqual((covered.direction, covered.future), (3, {"a": 1}))

    def test_very_large_numbers(self):
        self.assertEqual(errors.InvalidAmount(-10 ** 59).amount, -10 ** 59)
        self.assertEqual(errors.InvalidNumber(10 ** 300).count, 10 ** 300)
        self.assertEqual(errors.InvalidDecision(10 ** 300).decision, 10 ** 300)


class Copies(unittest.TestCase):
    def test_decisions_may_be_integers_none_and_lists(self):
        for decision in (3, -1, None, [], [None], [1, [2, [None, []]]]):
            self.assertEqual(errors.InvalidDecision(decision).decision, decision)

    def test_tuples_within_a_decision_are_kept_as_lists(self):
        kept = errors.InvalidDecision((1, (2, [(), (None,)]), [3, (4,)])).decision
        self.assertEqual(kept, [1, [2, [[], [None]]], [3, [4]]])
        self.assertIs(type(kept), list)
        self.assertIs(type(kept[1][1][0]), list)
        self.assertEqual(errors.InvalidDecision(()).decision, [])

    def test_a_decision_may_be_changed_afterwards(self):
        decision = [1, [2, [3]], [4]]
        error = errors.InvalidDecision(decision)
        wording = str(error)
        decision[1][1].append(5)
        decision[2][0] = 6
        decision.append(7)
        self.assertEqual(error.decision, [1, [2, [3]], [4]])
        self.assertEqual((str(error), repr(error.args)), (wording, repr((wording,))))

    def test_a_group_may_be_changed_afterwards(self):
        group = [2, 1]
        error = errors.InvalidGroup(group)
        group.append(3)
        self.assertEqual(error.group, [2, 1])
        self.assertEqual(errors.InvalidGroup((2, 1)).group, [2, 1])

    def test_futures_and_groups_may_be_changed_afterwards(self):
        future, group = {"a": 1}, [0]
        kept, covered = errors.NotKept(future, group), errors.NotCovered(1, future)
        future["a"], future["b"] = 2, 3
        group.append(1)
        self.assertEqual((kept.future, kept.group, covered.future), ({"a": 1}, [0], {"a": 1}))

    def test_no_other_part_of_an_error_is_tied_either(self):
        future, group = {"a": 1}, [0]
        made = [errors.InvalidGroup(group), errors.NotKept(future, group), errors.NotCovered(1, future)]
        before = [(str(error), repr(error)) for error in made]
        future["b"] = 2
        group.append(3)
        self.assertEqual([(str(error), repr(error)) for error in made], before)

    def test_keys_of_a_future_ascend(self):
        future = {"c": 1, "a10": 2, "b": 3, "a": 4, "a2": 5}
        for error in (errors.NotKept(future, []), errors.NotCovered(0, future)):
            self.assertEqual(list(error.future.items()), [("a", 4), ("a10", 2), ("a2", 5), ("b", 3), ("c", 1)])


if __name__ == "__main__":
    unittest.main()

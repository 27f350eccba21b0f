"""Points 73 and 76: the texts of departments."""

import random
import unittest

from everyfuture.houses import House
from everyfuture.orders import Orders
from everyfuture.plans import Plans
from everyfuture.promises import Promises
from everyfuture.works import Works
from everyfuture.worktext import read_department, write_department
from tests.brute import BIG, HUGE, told
from tests.houses import random_decision, random_house, random_part
from tests.test_plans import random_plans
from tests.test_words import BAD_WORDS

TEXTS = {
    "orders 3 10\nperiod a 3 5 2 1 4\nperiod 6 p 2 0 1 4\nplaced 7":
        Orders([("a", 3, 5, 2, 1, 4), (6, "p", 2, 0, 1, 4)], stock=3, urgent=10, placed=[7]),
    "orders 0 0\nplaced": Orders([]),
    "plans ( all ( one a ( all b 2 ) ) 7 ( all ) )\nplaced 1":
        Plans(("all", [("one", ["a", ("all", ["b", 2])]), 7, ("all", [])]), placed=[1]),
    "plans 5\nplaced": Plans(5),
    "plans all\nplaced": Plans("all"),
    "plans ( one one ( one all 0 ) )\nplaced 1 0": Plans(("one", ["one", ("one", ["all", 0])]), placed=[1, 0]),
    "works\nproject 1:0 3:w\nproject\nproject h:1\nplaced 0 2 0":
        Works([[(1, 0), (3, "w")], [], [("h", 1)]], placed=[0, 2, 0]),
    "works\nplaced": Works([]),
    "promises 5\nrates 2 1\nslot a 1\nslot 0 b\nplaced 9": Promises([2, 1], [["a", 1], [0, "b"]], fine=5, placed=[9]),
    "promises 1\nrates 1\nplaced": Promises([1], [], fine=1),
    "house 0": House([]),
    "house 2\nplans a\nplaced\nhouse 3\nhouse 0\nworks\nplaced\nplans b\nplaced":
        House([Plans("a"), House([House([]), Works([]), Plans("b")])]),
}
NESTED = "\n".join(["house 3", *list(TEXTS)[0].split("\n"), "house 2", *list(TEXTS)[8].split("\n"), "house 0",
                    *list(TEXTS)[6].split("\n")]).replace("slot a", "slot c")


def attributes(department):
    """Return the class and the attributes of a department, for a house those of its parts."""
    if isinstance(department, House):
        return House, [attributes(part) for part in department.parts], department.gauges, department.hour_gauges
    if isinstance(department, Orders):
        own = (department.periods, department.stock, department.urgent)
    elif isinstance(department, Plans):
        own = (department.term, department.chosen())
    elif isinstance(department, Works):
        own = (department.projects,)
    else:
        own = (department.rates, department.table, department.fine)
    return type(department), own, department.placed, department.gauges, department.hour_gauges


class ThereAndBack(unittest.TestCase):
    def check(self, department):
        text = write_department(department)
        again = read_department(text)
        self.assertIs(type(again), type(department))
        self.assertEqual(repr(attributes(again)), repr(attributes(department)))
        self.assertEqual(write_department(again), text)

    def test_plain_texts(self):
        for text, department in TEXTS.items():
            self.assertEqual(write_department(department), text)
            self.assertEqual(repr(attributes(read_department(text))), repr(attributes(department)))

    def test_departments_of_every_class(self):
        dice = random.Random(300)
        placed = {}
        for _ in range(200):
            part = random_part(dice, "", most=12)
            placed[type(part)] = placed.get(type(part), 0) + len(part.placed)
            self.check(part)
        self.assertEqual(set(placed), {Orders, Plans, Works, Promises})
        self.assertGreater(min(placed.values()), 5)

    def test_houses(self):
        dice = random.Random(301)
        for _ in range(100):
            house = random_house(dice, depth=3, most=8)
            self.check(house)
            if not house.is_finished():
                self.check(house.after(random_decision(dice, house)))
        self.check(House([House([House([])]), House([]), Plans(3)]))

    def test_plans_after_decisions_that_removed_gauges(self):
        dice = random.Random(302)
        removed = 0
        for _ in range(60):
            plans, _ = random_plans(dice)
            many = len(plans.gauges)
            while not plans.is_finished():
                plans = plans.after(random_decision(dice, plans))
                self.check(plans)
            removed += len(plans.gauges) < many
        self.assertGreater(removed, 10)
        shared = House([Plans(("one", ["a", "b"]), placed=[1]), Plans("a")])
        self.check(shared)
        self.assertEqual(read_department(write_department(shared)).gauges, ("a", "b"))

    def test_great_numbers(self):
        self.check(Orders([(BIG, BIG, BIG, BIG, BIG, BIG)], stock=HUGE, urgent=HUGE, placed=[10 ** 60 - 1]))
        self.check(Plans(("all", [HUGE, ("one", [BIG, 10 ** 90])])))
        self.check(Works([[(HUGE, BIG)] * 24], placed=[0] * 24))
        self.check(House([Promises([BIG], [[HUGE]], fine=HUGE, placed=[HUGE])]))
        self.assertEqual(read_department(f"plans {10 ** 60 - 1}\nplaced").term, 10 ** 60 - 1)

    def test_a_nested_text(self):
        house = read_department(NESTED)
        self.assertEqual([type(part) for part in house.parts], [Orders, House, Works])
        self.assertEqual((len(house.parts[1].parts), house.gauges), (2, ("a", "b", "c", "h", "p", "w")))
        self.assertEqual(write_department(house), NESTED)

    def test_deep_terms_and_houses(self):
        term = 7
        for at in range(40):
            term = (("all", "one")[at % 2], (term,))
        self.check(Plans(term))
        house = House([Plans(4)])
        for _ in range(12):
            house = House([house, House([])])
        self.check(house)
        text = "\n".join(["house 1"] * 9000)
        self.assertEqual(told(read_department, text), ("InvalidText", 9001))
        self.assertEqual(told(read_department, text + "\nx"), ("InvalidText", 9001))

    def test_nothing_is_tied(self):
        department = list(TEXTS.values())[0]
        before = attributes(department)
        write_department(department)
        read_department(write_department(department))
        self.assertEqual(attributes(department), before)


class WrongLines(unittest.TestCase):
    def check_line(self, text, at, bad):
        """Check that the text with a bad line at this index, with and without bad lines behind it, is refused there."""
        lines = text.split("\n")
        for rest in (lines[at + 1:], ["x"], []):
            self.assertEqual(told(read_department, "\n".join(lines[:at] + [bad] + rest)), ("InvalidText", at + 1), bad)

    def test_lines_of_every_text(self):
        for text in [*TEXTS, NESTED]:
            lines = text.split("\n")
            for at, line in enumerate(lines):
                word = line.split(" ")[0]
                for bad in ("", " ", "x", " " + line, line + " ", line + " .", line + " -", line + " 00", line + " -0",
                            word.upper() + line[len(word):], word + "s" + line[len(word):],
                            word + "  " + line[len(word) + 1:],
                            "kind a", "undo", "future a=1", "( )", "-", "5"):
                    self.check_line(text, at, bad)

    def test_orders(self):
        text = list(TEXTS)[0]
        for bad in ("orders", "orders 3", "orders 3 10 4", "orders a 10", "orders 3 b", "orders 03 10", "orders 3 - 4"):
            self.check_line(text, 0, bad)
        for bad in ("period", "period a 3 5 2 1", "period a 3 5 2 1 4 6", "period a 3 b 2 1 4", "period a 3 5 2 1 c",
                    "period A 3 5 2 1 4", "period a 3 5 2 01 4", "period a - 5 2 1 4", "project 1:2", "slot a 3"):
            self.check_line(text, 2, bad)
        for bad in ("placed a", "placed 7 b", "placed -", "placed ( 7 )", "placed 07", "placed None", "orders 3 10"):
            self.check_line(text, 3, bad)

    def test_plans(self):
        text = list(TEXTS)[2]
        for words in ("", "( )", "( all", "( a )", "( any a )", "( 5 )", "( ( all ) )", "all )", "( all ) )",
                      "( all ) 5",
                      "a b", "5 5", "( one ( all )", "( all ( ) )", "(", ")", "( one", "( all A )", "( all 05 )",
                      "( all - )",
                      "( One a )", "( all a", ") ( all", "(all a )", "( all a)", "-", "( all ( all ) ) ( all )", "a )"):
            self.check_line(text, 0, f"plans {words}" if words else "plans")
        self.check_line(text, 1, "plans 5")
        for word in BAD_WORDS:
            if word not in ("a", "(", ")"):
                self.check_line(text, 0, f"plans ( all 1 {word} 2 )")
                self.check_line(text, 0, f"plans {word}")

    def test_works(self):
        text = list(TEXTS)[6]
        for bad in ("works 1", "works a:b", "works works", "project 1:2"):
            self.check_line(text, 0, bad)
        for bad in ("project 1", "project a", "project 1:", "project :1", "project 1:2:3", "project 1: 2",
                    "project 1 :2",
                    "project A:1", "project 1:B", "project 01:1", "project 1:-0", "project h;1", "project 1:2 3",
                    "project -",
                    "project ( 1 2 )", "period 1:2", "slot 1 2"):
            self.check_line(text, 1, bad)

    def test_promises(self):
        text = list(TEXTS)[8]
        for bad in ("promises", "promises 5 6", "promises a", "promises -", "rates 2 1"):
            self.check_line(text, 0, bad)
        for bad in ("rates a 1", "rates 2 -", "rates 02", "slot a 1", "placed", "rate 2 1"):
            self.check_line(text, 1, bad)
        for bad in ("slot A 1", "slot a 01", "slot - 1", "slot ( a 1 )", "slots a 1", "rates 2 1", "period a 1"):
            self.check_line(text, 2, bad)

    def test_houses(self):
        text = "house 2\nplans a\nplaced\nhouse 1\nplans b\nplaced"
        self.assertIs(type(read_department(text)), House)
        for bad in ("house", "house -1", "house 1 1", "house a", "house -0", "house 02", "house -", "house ( )"):
            self.check_line(text, 0, bad)
            self.check_line(text, 3, bad)
        for count, line in ((0, 2), (1, 4), (3, 7), (4, 7), (HUGE, 7)):
            self.assertEqual(told(read_department, text.replace("house 2", f"house {count}")), ("InvalidText", line))
        for count, line in ((0, 5), (2, 7)):
            self.assertEqual(told(read_department, text.replace("house 1", f"house {count}")), ("InvalidText", line))

    def test_lines_missing_and_lines_too_many(self):
        self.assertEqual(told(read_department, ""), ("InvalidText", 1))
        self.assertEqual(told(read_department, "\n"), ("InvalidText", 1))
        for text in [*TEXTS, NESTED]:
            lines = text.split("\n")
            for many in range(1, len(lines)):
                self.assertEqual(told(read_department, "\n".join(lines[:many])), ("InvalidText", many + 1), text)
            for more in ("", "placed", "x", "plans 5\nplaced", "house 0", "\n"):
                self.assertEqual(told(read_department, text + "\n" + more), ("InvalidText", len(lines) + 1))


class Creation(unittest.TestCase):
    def test_the_errors_of_each_class(self):
        for text, error in (("orders -1 -2\nperiod -1 2 3 4 5 6\nplaced -1", ("InvalidPeriod", 0)),
                            ("orders -1 -2\nperiod a 2 3 4 5 6\nperiod 1 a 3 4 5 6\nplaced", ("SharedGauge", "a")),
                            ("orders -1 -2\nplaced -1", ("InvalidAmount", -1)), ("orders 0 -2\nplaced",
                            ("InvalidAmount", -2)),
                            ("orders 0 0\nplaced 5", ("InvalidPlan", 0)), ("plans ( all 1 ( one ) )\nplaced",
                                                                        ("InvalidTerm", 2)),
                            ("plans -1\nplaced 3", ("InvalidTerm", 0)), ("plans ( all a a )\nplaced", ("SharedGauge",
                            "a")),
                            ("plans ( one a b )\nplaced 1 0", ("InvalidPlan", 1)),
                            ("plans ( one a b )\nplaced -1", ("InvalidPlan", 0)),
                            ("works\nproject 1:1\nproject 1:1 0:a\nplaced 7", ("InvalidStep", 1, 1)),
                            ("works\nproject a:a\nplaced 7", ("SharedGauge", "a")),
                            ("works\nproject 1:1\nplaced 0 0", ("InvalidPlan", 1)),
                            ("promises 0\nrates 1 0\nslot\nplaced", ("InvalidRate", 1)),
                            ("promises 0\nrates 1\nslot a\nslot\nplaced", ("InvalidSlot", 1)),
                            ("promises 0\nrates 1\nslot a\nslot -1\nplaced", ("InvalidSlot", 1)),
                            ("promises 0\nrates 1 1\nslot a a\nplaced", ("SharedGauge", "a")),
                            ("promises 0\nrates 1\nslot a\nplaced", ("InvalidAmount", 0)),
                            ("promises 1\nrates 1\nslot a\nplaced -5", ("InvalidPlan", 0)),
                            ("house 2\nplans a\nplaced\nplans a\nplaced", ("SharedGauge", "a"))):
            self.assertEqual(told(read_department, text), error, text)

    def test_errors_come_in_the_order_of_the_departments_after_all_lines(self):
        bad = ["plans -1\nplaced", "orders 0 -7\nplaced", "works\nproject 0:1\nplaced", "plans 5\nplaced 3"]
        errors = [("InvalidTerm", 0), ("InvalidAmount", -7), ("InvalidStep", 0, 0), ("InvalidPlan", 0)]
        good = "plans a\nplaced"
        for one, first in zip(bad, errors):
            for two, second in zip(bad, errors):
                self.assertEqual(told(read_department, f"house 3\n{good}\n{one}\n{two}"), first)
                self.assertEqual(told(read_department, f"house 2\nhouse 2\n{good}\n{one}\n{two}"), first)
                self.assertEqual(told(read_department, f"house 2\n{one}\nhouse 1\n{two}"), first)
                lines = 3 + one.count("\n") + two.count("\n")
                self.assertEqual(told(read_department, f"house 3\n{one}\n{two}\nx"), ("InvalidText", lines + 1))
                self.assertEqual(told(read_department, f"house 2\n{one}\n{two}\n"), ("InvalidText", lines + 1))
            # A house is created after its departments and before those behind it.
            shared = f"house 2\n{good}\n{good}"
            self.assertEqual(told(read_department, f"house 2\n{shared}\n{one}"), ("SharedGauge", "a"))
            self.assertEqual(told(read_department, f"house 2\n{one}\n{shared}"), first)
            self.assertEqual(told(read_department, f"house 3\n{good}\n{good}\n{one}"), first)


if __name__ == "__main__":
    unittest.main()

"""Points 73 to 75: the texts of kinds and futures."""

import random
import unittest

from everyfuture.kinds import Kind, menu, single
from everyfuture.kindtext import read_future, read_kind, write_future, write_kind
from tests.brute import BIG, HUGE, random_boxes, told
from tests.test_words import BAD_WORDS

EXAMPLE = "kind a b\ncell 0..1 0..1\ncell 2..5 0..4"


class Kinds(unittest.TestCase):
    def test_plain_texts(self):
        for text, kind in ((EXAMPLE, Kind(["b", "a"], [[(0, 1), (0, 3)], [(0, 4), (2, 5)]])),
                           ("kind\ncell", Kind([], [[]])),
                           ("kind z9\ncell 0\ncell 7..8", menu("z9", [7, 0, 8])),
                           (f"kind all one\ncell 3 0..{HUGE}", Kind(["all", "one"], [[(3, 3), (0, HUGE)]]))):
            self.assertEqual((write_kind(kind), read_kind(text)), (text, kind))

    def test_there_and_back(self):
        dice = random.Random(280)
        for _ in range(150):
            gauges = dice.sample(["a", "b", "kind", "cell", "z99", "abcdefg8"], dice.randint(0, 4))
            kind = Kind(gauges, random_boxes(dice, len(gauges), dice.choice((3, 9, BIG)), 4))
            again = read_kind(write_kind(kind))
            self.assertEqual(again, kind)
            self.assertEqual((again.gauges, again.cells), (kind.gauges, kind.cells))
            self.assertEqual(write_kind(again), write_kind(kind))

    def test_names_in_any_order_and_boxes_of_any_form(self):
        kind = Kind(["b", "a"], [[(0, 1), (0, 3)], [(0, 4), (2, 5)]])
        self.assertEqual(read_kind("kind b a\ncell 0..1 0..3\ncell 0..4 2..5"), kind)
        self.assertEqual(read_kind("kind b a\ncell 0..4 2..5\ncell 0..1 0..3\ncell 1..1 3\ncell 0 2"), kind)
        self.assertEqual(read_kind("kind c\ncell 5..5\ncell 0..0\ncell 5"), menu("c", [0, 5]))
        self.assertEqual(read_kind("kind\ncell\ncell\ncell"), Kind([], [[]]))

    def test_the_errors_of_the_creation(self):
        for text, error in (("kind", ("EmptyKind",)), ("kind a", ("EmptyKind",)), ("kind a b a", ("InvalidGauge", "a")),
                            ("kind b a a b\ncell 1 2 3 4", ("InvalidGauge", "a")), ("kind a\ncell 5..4",
                            ("InvalidBox", 0)),
                            ("kind a\ncell 5..6\ncell", ("InvalidBox", 1)), ("kind\ncell\ncell 1", ("InvalidBox", 1)),
                            ("kind a b\ncell 1 2\ncell 1 2 3\ncell 1", ("InvalidBox", 1)),
                            ("kind a a\ncell 5..4", ("InvalidGauge", "a"))):
            self.assertEqual(told(read_kind, text), error, text)

    def test_wrong_names(self):
        for word in BAD_WORDS + ("A", "aB", "a_b", "abcdefghi", "a=1", "9a", "a-b", "-a"):
            if word != "a":
                if word not in ("1a",):
                    self.assertEqual(told(read_kind, f"kind {word}"), ("InvalidText", 1), word)
                self.assertEqual(told(read_kind, f"kind b {word} c\ncell 1 2 3"), ("InvalidText", 1), word)

    def test_wrong_stretches(self):
        for word in BAD_WORDS + ("-1", "-1..2", "1..-2", "1...2", "1.2", "1..", "..2", "1..2..3", "1..02", "01..2",
                                 "1,2", "2..-", "-..2", "0..-0"):
            if word != "":
                self.assertEqual(told(read_kind, f"kind a\ncell {word}"), ("InvalidText", 2), word)
            text = f"kind a b c\ncell 1 2 3\ncell 1 {word} 2\ncell x"
            self.assertEqual(told(read_kind, text), ("InvalidText", 3), word)

    def test_wrong_lines(self):
        for text, line in (("", 1), ("\n", 1), ("kinds a\ncell 1", 1), (" kind a\ncell 1", 1), ("kind a \ncell 1", 1),
                           ("kind  a\ncell 1", 1), ("cell 1\nkind a", 1), ("Kind a", 1), ("kind a\n", 2),
                           ("kind a\ncell 1\n", 3), ("kind a\n\ncell 1", 2), ("kind a\ncells 1", 2),
                           ("kind a\n cell 1", 2), ("kind a\ncell 1 ", 2), ("kind a\ncell  1", 2),
                           ("kind a\ncell 1\nkind a\ncell 1", 3), ("kind a a\ncell 1\nx", 3), ("kind a\nfuture a=1", 2),
                           ("kind a\ncell 5..4\ncell", 0)):
            self.assertEqual(told(read_kind, text), ("InvalidText", line) if line else ("InvalidBox", 0), text)


class Futures(unittest.TestCase):
    def test_plain_texts(self):
        for text, future in (("future", {}), ("future a=0 b=-1", {"b": -1, "a": 0}),
                             (f"future all={HUGE} z=-{HUGE}", {"z": -HUGE, "all": HUGE}), ("future a10=1 a2=2",
                                                                                           {"a2": 2, "a10": 1})):
            self.assertEqual((write_future(future), read_future(text)), (text, future))
            self.assertEqual(list(read_future(text)), sorted(future))

    def test_gauges_in_any_order(self):
        future = read_future("future c=3 a=-1 b=2")
        self.assertEqual(list(future.items()), [("a", -1), ("b", 2), ("c", 3)])

    def test_there_and_back(self):
        dice = random.Random(281)
        for _ in range(100):
            gauges = dice.sample([f"g{at}" for at in range(20)], dice.randint(0, 12))
            future = {gauge: dice.randint(-HUGE, HUGE) for gauge in gauges}
            self.assertEqual(read_future(write_future(future)), future)
            shuffled = [f"{gauge}={value}" for gauge, value in future.items()]
            self.assertEqual(read_future(" ".join(["future", *shuffled])), future)
        self.assertEqual(read_future(write_future(single({"a": 4}).future_at(0))), {"a": 4})

    def test_wrong_words(self):
        for word in BAD_WORDS + ("a", "a=", "=1", "a=01", "a=-0", "a=--1", "a=+1", "A=1", "a==1", "a=1=2",
                                 "abcdefghi=1",
                                 "9=1", "a=b", "a=-", "a:1", "a=1.0", "a =1", "a= 1", "a=1..2"):
            if word != "":
                self.assertEqual(told(read_future, f"future {word}"), ("InvalidText", 1), word)
            self.assertEqual(told(read_future, f"future b=1 {word} c=2"), ("InvalidText", 1), word)

    def test_a_name_twice(self):
        for text in ("future a=1 a=1", "future b=1 a=1 c=0 b=2"):
            self.assertEqual(told(read_future, text), ("InvalidText", 1))

    def test_wrong_lines(self):
        for text, line in (("", 1), ("futures", 1), (" future", 1), ("future ", 1), ("future  a=1", 1), ("a=1", 1),
                           ("Future a=1", 1), ("\nfuture", 1), ("future\n", 2), ("future a=1\nfuture a=1", 2),
                           ("future a=1\n\n", 2), ("future a=1 a=2\n", 1)):
            self.assertEqual(told(read_future, text), ("InvalidText", line), text)

    def test_nothing_is_tied(self):
        future = {"b": 1, "a": 2}
        write_future(future)
        self.assertEqual(list(future), ["b", "a"])
        read_future("future a=1").clear()
        self.assertEqual(read_future("future a=1"), {"a": 1})


if __name__ == "__main__":
    unittest.main()

"""Points 9, 10, 11 and 14, and the methods of kinds."""

import random
import unittest

from everyfuture.kinds import Kind, both, either, menu, single
from everyfuture.stretches import join_stretches
from tests.brute import BIG, HUGE, cells_by_words, futures_of, points_of, random_boxes, split_boxes, told

NAMES = ["a", "b", "c", "d", "e", "f", "g", "h", "i", "j", "k", "l"]


class Creation(unittest.TestCase):
    def test_the_first_wrong_name(self):
        self.assertEqual(told(Kind, ["a", "B", "C"], [[(0, 1)] * 3]), ("InvalidGauge", "B"))
        self.assertEqual(told(Kind, ["b", "a", "b", "a"], []), ("InvalidGauge", "b"))
        self.assertEqual(told(Kind, ["a", "a", "B"], []), ("InvalidGauge", "a"))
        self.assertEqual(told(Kind, ("abcdefghi",), []), ("InvalidGauge", "abcdefghi"))
        self.assertEqual(told(Kind, ["a\n"], []), ("InvalidGauge", "a\n"))

    def test_the_first_wrong_box(self):
        good = [(0, 0), (1, 2)]
        for bad in ([(0, 0)], [], [(0, 0)] * 3, [(-1, 0), (0, 0)], [(0, 0), (3, 2)], [(0, 0), (-2, -3)]):
            self.assertEqual(told(Kind, ["a", "b"], [good, bad, [(5, 4), (0, 0)]]), ("InvalidBox", 1))
            self.assertEqual(told(Kind, ["b", "a"], [bad]), ("InvalidBox", 0))
        self.assertEqual(told(Kind, [], [[], [(0, 0)]]), ("InvalidBox", 1))

    def test_the_order_of_errors(self):
        self.assertEqual(told(Kind, ["A"], []), ("InvalidGauge", "A"))
        self.assertEqual(told(Kind, ["A"], [[]]), ("InvalidGauge", "A"))
        self.assertEqual(told(Kind, ["a"], []), ("EmptyKind",))
        self.assertEqual(told(Kind, [], []), ("EmptyKind",))
        self.assertEqual(told(Kind, (), ()), ("EmptyKind",))

    def test_gauges_may_be_passed_in_any_order(self):
        kind = Kind(["c", "a", "b"], [[(1, 1), (2, 2), (3, 4)]])
        self.assertEqual((kind.gauges, kind.cells), (("a", "b", "c"), (((2, 2), (3, 4), (1, 1)),)))
        self.assertEqual(Kind(["b1", "b", "b0"], [[(1, 1), (2, 2), (3, 3)]]).gauges, ("b", "b0", "b1"))

    def test_tuples_may_stand_for_lists(self):
        self.assertEqual(Kind(("b", "a"), (((0, 1), (2, 3)),)), Kind(["b", "a"], [[(0, 1), (2, 3)]]))

    def test_cells_are_tuples_of_pairs(self):
        kind = Kind(["a", "b"], [[(0, 1), (2, 3)], [(4, 4), (2, 2)]])
        self.assertIs(type(kind.gauges), tuple)
        self.assertIs(type(kind.cells), tuple)
        for cell in kind.cells:
            self.assertIs(type(cell), tuple)
            for stretch in cell:
                self.assertIs(type(stretch), tuple)

    def test_what_was_passed_may_be_changed(self):
        gauges, boxes = ["b", "a"], [[(0, 1), (2, 3)]]
        kind = Kind(gauges, boxes)
        gauges[0] = "x"
        boxes[0][0] = (7, 7)
        boxes.append([(9, 9), (9, 9)])
        self.assertEqual((kind.gauges, kind.cells, kind.size()), (("a", "b"), (((2, 3), (0, 1)),), 4))

    def test_what_was_passed_is_not_changed(self):
        gauges, boxes = ["b", "a"], [[(5, 6), (2, 3)], [(0, 6), (2, 3)]]
        Kind(gauges, boxes)
        self.assertEqual((gauges, boxes), (["b", "a"], [[(5, 6), (2, 3)], [(0, 6), (2, 3)]]))


class Cells(unittest.TestCase):
    def test_the_example_of_point_11(self):
        kind = Kind(["a", "b"], [[(0, 3), (0, 1)], [(2, 5), (0, 4)]])
        self.assertEqual(kind.cells, (((0, 1), (0, 1)), ((2, 5), (0, 4))))
        self.assertEqual(kind.size(), 24)

    def test_a_kind_without_gauges(self):
        for boxes in ([[]], [[], []], ((),)):
            kind = Kind([], boxes)
            self.assertEqual((kind.gauges, kind.cells, kind.size()), ((), ((),), 1))

    def test_runs_are_as_long_as_possible(self):
        self.assertEqual(menu("a", [3, 1, 2, 5, 1]).cells, (((1, 3),), ((5, 5),)))
        kind = Kind(["a", "b"], [[(0, 1), (0, 3)], [(2, 4), (0, 1)], [(2, 4), (2, 3)], [(6, 6), (0, 3)]])
        self.assertEqual(kind.cells, (((0, 4), (0, 3)), ((6, 6), (0, 3))))

    def test_the_first_gauge_comes_first(self):
        kind = Kind(["a", "b"], [[(0, 0), (0, 9)], [(0, 9), (0, 0)]])
        self.assertEqual(kind.cells, (((0, 0), (0, 9)), ((1, 9), (0, 0))))
        other = Kind(["b", "a"], [[(0, 0), (0, 3)], [(0, 9), (0, 0)]])
        self.assertEqual(other.cells, (((0, 0), (0, 9)), ((1, 3), (0, 0))))

    def test_several_cells_in_one_run(self):
        kind = Kind(["a", "b"], [[(0, 4), (0, 1)], [(2, 3), (5, 6)], [(0, 4), (8, 8)]])
        self.assertEqual(kind.cells, (((0, 1), (0, 1)), ((0, 1), (8, 8)), ((2, 3), (0, 1)), ((2, 3), (5, 6)),
                                      ((2, 3), (8, 8)), ((4, 4), (0, 1)), ((4, 4), (8, 8))))

    def test_against_the_words_of_point_10(self):
        dice = random.Random(10)
        for _ in range(400):
            width = dice.randint(0, 4)
            boxes = random_boxes(dice, width, 4, 8)
            kind = Kind(NAMES[:width], boxes)
            self.assertEqual(kind.cells, cells_by_words(points_of(boxes)))

    def test_boxes_in_another_form_give_an_equal_kind(self):
        dice = random.Random(11)
        for _ in range(60):
            boxes = random_boxes(dice, 3, 9, 4)
            kind = Kind(NAMES[:3], boxes)
            others = split_boxes(dice, kind.cells, 40) + dice.sample(boxes, len(boxes))
            self.assertEqual(Kind(NAMES[:3], others).cells, kind.cells)
            self.assertEqual(Kind(NAMES[:3], others), kind)
            turned = [[box[2], box[0], box[1]] for box in others]
            self.assertEqual(Kind(["c", "a", "b"], turned), kind)

    def test_300_boxes_of_many_gauges(self):
        dice = random.Random(12)
        whole = [(0, BIG)] * 12
        self.assertEqual(Kind(NAMES, split_boxes(dice, [whole], 300)[:300] + [whole]).cells, (tuple(whole),))
        self.assertEqual(Kind(NAMES, split_boxes(dice, [whole], 300)).cells, (tuple(whole),))
        within = [[(at + gauge, BIG - at * at) for gauge in range(12)] for at in range(300)]
        self.assertEqual(Kind(NAMES, within[::-1]).cells, (tuple(within[0]),))
        apart = [[(at * 10, at * 10 + gauge) for gauge in range(12)] for at in range(300)]
        self.assertEqual(Kind(NAMES, apart[::-1]).cells, tuple(tuple(box) for box in apart))

    def test_300_boxes_of_one_and_two_gauges(self):
        steps = [[(at * BIG, at * BIG + at)] for at in range(300)]
        self.assertEqual(Kind(["a"], steps[::-1]).cells, tuple(tuple(box) for box in steps))
        stairs = [[(0, at), (0, 299 - at)] for at in range(300)]
        expected = tuple(((at, at), (0, 299 - at)) for at in range(300))
        self.assertEqual(Kind(["a", "b"], stairs).cells, expected)
        nested = [[(at, BIG - at), (at, BIG - at)] for at in range(300)]
        self.assertEqual(Kind(["a", "b"], nested[::-1]).cells, (((0, BIG), (0, BIG)),))

    def test_equal_rests_behind_many_ways(self):
        """At most two of twelve gauges are great, so many different beginnings leave the same rest."""
        dice = random.Random(13)
        boxes = []
        for at in range(12):
            for other in range(at):
                great = {at, other}
                boxes.append([(0, 9) if gauge in great else (0, 3) for gauge in range(12)])
        dice.shuffle(boxes)
        kind = Kind(NAMES, boxes)
        self.assertEqual(kind.size(), 4 ** 12 + 12 * 6 * 4 ** 11 + 66 * 36 * 4 ** 10)
        self.assertEqual(Kind(NAMES, kind.cells), kind)


class Numbers(unittest.TestCase):
    def test_all_futures_of_small_kinds_in_order(self):
        dice = random.Random(14)
        for _ in range(60):
            width = dice.randint(0, 3)
            kind = Kind(NAMES[:width], random_boxes(dice, width, 5, 4))
            futures = futures_of(kind)
            self.assertEqual(kind.size(), len(futures))
            self.assertEqual([kind.future_at(number) for number in range(kind.size())], futures)
            self.assertEqual([kind.number_of(future) for future in futures], list(range(kind.size())))

    def test_keys_ascend(self):
        kind = Kind(["c", "a", "b"], [[(1, 2), (0, 3), (4, 5)]])
        self.assertEqual(list(kind.future_at(3)), ["a", "b", "c"])
        self.assertEqual(list(kind.complete({"c": 2, "a": 1})), ["a", "b", "c"])

    def test_there_and_back_with_very_many_futures(self):
        dice = random.Random(15)
        boxes = [[(dice.randint(0, BIG // 2), dice.randint(BIG // 2, BIG)) for _ in range(12)] for _ in range(2)]
        kind = Kind(NAMES, boxes)
        size = kind.size()
        self.assertGreater(size, 10 ** 190)
        for number in [0, 1, size // 2, size - 2, size - 1] + [dice.randrange(size) for _ in range(50)]:
            future = kind.future_at(number)
            self.assertIn(future, kind)
            self.assertEqual(kind.number_of(future), number)
        self.assertEqual(kind.future_at(0), {name: kind.complete({})[name] for name in NAMES})

    def test_size_of_one_great_box(self):
        self.assertEqual(Kind(NAMES, [[(0, BIG)] * 12]).size(), (BIG + 1) ** 12)
        self.assertEqual(Kind(["a"], [[(5, 5)], [(7, BIG)]]).size(), BIG - 5)

    def test_numbers_that_no_future_has(self):
        kind = Kind(["a"], [[(3, 5)], [(8, 8)]])
        for number in (-1, 4, 5, -HUGE, HUGE):
            self.assertEqual(told(kind.future_at, number), ("InvalidNumber", 4))
        self.assertEqual(told(Kind([], [[]]).future_at, 1), ("InvalidNumber", 1))
        self.assertEqual(Kind([], [[]]).future_at(0), {})

    def test_futures_that_have_no_number(self):
        kind = Kind(["a", "b"], [[(3, 5), (0, 1)], [(8, 8), (3, 3)]])
        for future in ({}, {"a": 3}, {"b": 0}, {"a": 2, "b": 0}, {"a": 3, "b": 3}, {"a": 8, "b": -1}):
            self.assertEqual(told(kind.number_of, future), ("NotInKind",))
        self.assertEqual(kind.number_of({"c": -7, "b": 3, "a": 8}), 6)
        self.assertEqual(Kind([], [[]]).number_of({"x": 3}), 0)

    def test_a_returned_future_may_be_changed(self):
        kind = Kind(["a"], [[(3, 5)]])
        kind.future_at(0)["a"] = 9
        kind.complete({})["a"] = 9
        self.assertEqual((kind.future_at(0), kind.complete({})), ({"a": 3}, {"a": 3}))


class Completing(unittest.TestCase):
    def test_against_all_futures(self):
        dice = random.Random(16)
        for _ in range(100):
            kind = Kind(NAMES[:3], random_boxes(dice, 3, 4, 4))
            partial = {name: dice.randint(0, 4) for name in NAMES[:5] if dice.random() < 0.5}
            asked = [name for name in kind.gauges if name in partial]
            fitting = [future for future in futures_of(kind) if all(future[name] == partial[name] for name in asked)]
            if fitting:
                self.assertEqual(kind.complete(partial), fitting[0])
            else:
                self.assertEqual(told(kind.complete, partial), ("NotInKind",))

    def test_other_gauges_and_great_values(self):
        kind = Kind(["a", "b"], [[(0, BIG), (5, BIG)]])
        self.assertEqual(kind.complete({"z": -1, "b": 77}), {"a": 0, "b": 77})
        self.assertEqual(kind.complete({"a": BIG}), {"a": BIG, "b": 5})
        self.assertEqual(told(kind.complete, {"a": BIG + 1}), ("NotInKind",))
        self.assertEqual(told(kind.complete, {"b": -HUGE}), ("NotInKind",))
        self.assertEqual(Kind([], [[]]).complete({"a": 1}), {})

    def test_the_first_future_need_not_be_in_the_first_cell(self):
        kind = Kind(["a", "b"], [[(0, 4), (7, 9)], [(2, 3), (0, 5)]])
        self.assertEqual(kind.complete({"b": 1}), {"a": 2, "b": 1})
        self.assertEqual(kind.complete({"a": 3}), {"a": 3, "b": 0})


class Spans(unittest.TestCase):
    def test_against_all_futures(self):
        dice = random.Random(17)
        for _ in range(60):
            kind = Kind(NAMES[:3], random_boxes(dice, 3, 6, 4))
            for name in kind.gauges:
                found = [future[name] for future in futures_of(kind)]
                self.assertEqual(kind.span(name), (min(found), max(found)))
                self.assertEqual(kind.values_of(name), join_stretches([(number, number) for number in found]))

    def test_a_gauge_that_is_not_there(self):
        kind = Kind(["a"], [[(0, 1)]])
        self.assertEqual(told(kind.span, "b"), ("MissingGauge", "b"))
        self.assertEqual(told(kind.values_of, "B"), ("MissingGauge", "B"))
        self.assertEqual(told(Kind([], [[]]).span, "a"), ("MissingGauge", "a"))

    def test_great_values_and_new_lists(self):
        kind = Kind(["a", "b"], [[(0, BIG), (1, 1)], [(BIG + 2, HUGE), (3, 3)]])
        self.assertEqual(kind.values_of("a"), [(0, BIG), (BIG + 2, HUGE)])
        kind.values_of("a").append((0, 0))
        self.assertEqual(kind.values_of("a"), [(0, BIG), (BIG + 2, HUGE)])
        self.assertEqual((kind.span("a"), kind.span("b")), ((0, HUGE), (1, 3)))


class Cutting(unittest.TestCase):
    def test_against_all_futures(self):
        dice = random.Random(18)
        for _ in range(150):
            kind = Kind(NAMES[:3], random_boxes(dice, 3, 5, 4))
            name = dice.choice(kind.gauges)
            low, high = dice.choice([None, dice.randint(-1, 6)]), dice.choice([None, dice.randint(-1, 6)])
            kept = [future for future in futures_of(kind)
                    if (low is None or low <= future[name]) and (high is None or future[name] <= high)]
            if kept:
                cut = kind.cut(name, low=low, high=high)
                self.assertEqual(cut.gauges, kind.gauges)
                self.assertEqual(cut.cells, cells_by_words({tuple(future.values()) for future in kept}))
            else:
                self.assertEqual(told(kind.cut, name, low=low, high=high), ("EmptyKind",))

    def test_edges(self):
        kind = Kind(["a", "b"], [[(2, 5), (0, BIG)]])
        self.assertEqual(kind.cut("a"), kind)
        self.assertEqual(kind.cut("a", low=2, high=5), kind)
        self.assertEqual(kind.cut("a", low=-HUGE, high=HUGE), kind)
        self.assertEqual(kind.cut("b", low=BIG), Kind(["a", "b"], [[(2, 5), (BIG, BIG)]]))
        self.assertEqual(kind.cut("a", low=5).span("a"), (5, 5))
        self.assertEqual(kind.cut("a", high=2).span("a"), (2, 2))
        self.assertEqual(told(kind.cut, "a", low=6), ("EmptyKind",))
        self.assertEqual(told(kind.cut, "a", high=1), ("EmptyKind",))
        self.assertEqual(told(kind.cut, "a", low=4, high=3), ("EmptyKind",))
        self.assertEqual(told(menu("a", [1, 5]).cut, "a", low=2, high=4), ("EmptyKind",))
        self.assertEqual(told(kind.cut, "c", low=4, high=3), ("MissingGauge", "c"))
        self.assertEqual(kind.cells, (((2, 5), (0, BIG)),))

    def test_runs_that_become_equal_are_joined(self):
        kind = Kind(["a", "b"], [[(0, 2), (0, 4)], [(3, 5), (0, 7)]])
        self.assertEqual(kind.cut("b", high=3).cells, (((0, 5), (0, 3)),))
        self.assertEqual(kind.cut("b", low=5).cells, (((3, 5), (5, 7)),))


class Projection(unittest.TestCase):
    def test_against_all_futures(self):
        dice = random.Random(19)
        for _ in range(150):
            kind = Kind(NAMES[:4], random_boxes(dice, 4, 3, 5))
            gauges = [name for name in kind.gauges if dice.random() < 0.5]
            points = {tuple(future[name] for name in gauges) for future in futures_of(kind)}
            part = kind.onto(dice.sample(gauges, len(gauges)))
            self.assertEqual((part.gauges, part.cells), (tuple(gauges), cells_by_words(points)))

    def test_all_gauges_and_none(self):
        kind = Kind(["a", "b"], [[(0, BIG), (1, 1)], [(5, 6), (3, BIG)]])
        self.assertEqual(kind.onto(("b", "a")), kind)
        self.assertEqual(kind.onto([]), Kind([], [[]]))
        self.assertEqual(kind.onto(["b"]).cells, (((1, 1),), ((3, BIG),)))

    def test_errors_in_the_order_of_the_list(self):
        kind = Kind(["a", "b"], [[(0, 0), (1, 1)]])
        self.assertEqual(told(kind.onto, ["a", "a", "c"]), ("InvalidGauge", "a"))
        self.assertEqual(told(kind.onto, ["a", "c", "a"]), ("MissingGauge", "c"))
        self.assertEqual(told(kind.onto, ["c", "c"]), ("MissingGauge", "c"))
        self.assertEqual(told(kind.onto, ("b", "a", "b")), ("InvalidGauge", "b"))

    def test_what_was_passed_is_neither_changed_nor_tied(self):
        kind, gauges = Kind(["a", "b"], [[(0, 0), (1, 1)]]), ["b", "a"]
        part = kind.onto(gauges)
        self.assertEqual(gauges, ["b", "a"])
        gauges.pop()
        self.assertEqual(part.gauges, ("a", "b"))


class Helpers(unittest.TestCase):
    def test_single(self):
        kind = single({"b": BIG, "a": 0})
        self.assertEqual((kind.gauges, kind.cells), (("a", "b"), (((0, 0), (BIG, BIG)),)))
        self.assertEqual(single({}), Kind([], [[]]))
        self.assertEqual(told(single, {"b": -1, "B": 1, "A": 1}), ("InvalidGauge", "A"))
        self.assertEqual(told(single, {"a": 3, "b": -1}), ("InvalidBox", 0))

    def test_single_is_not_tied_to_the_future(self):
        future = {"a": 1}
        kind = single(future)
        future["a"] = 2
        self.assertEqual(kind, menu("a", [1]))

    def test_menu(self):
        self.assertEqual(menu("a", (5, 3, 5, HUGE, 4)).cells, (((3, 5),), ((HUGE, HUGE),)))
        self.assertEqual(told(menu, "A", [-1]), ("InvalidGauge", "A"))
        self.assertEqual(told(menu, "a", [3, -1, -2]), ("InvalidBox", 1))
        self.assertEqual(told(menu, "a", []), ("EmptyKind",))
        self.assertEqual(told(menu, "a1234567b", []), ("InvalidGauge", "a1234567b"))

    def test_both(self):
        first, second, third = menu("b", [1, 2]), menu("a", [5, 7]), menu("c", [0])
        self.assertEqual(both([]), Kind([], [[]]))
        self.assertEqual(both((first,)), first)
        self.assertEqual(both([first, second, third]), first * second * third)
        self.assertEqual(told(both, [first, second, menu("b", [1])]), ("SharedGauge", "b"))
        self.assertEqual(told(both, [first, second, second, first]), ("SharedGauge", "a"))

    def test_either(self):
        first, second, third = menu("a", [1]), menu("a", [2, 9]), menu("a", [3, 4])
        self.assertEqual(told(either, []), ("EmptyKind",))
        self.assertEqual(either([second]), second)
        self.assertEqual(either((first, second, third)).cells, (((1, 4),), ((9, 9),)))
        self.assertEqual(told(either, [first, second, menu("b", [1])]), ("OtherGauges", "a"))
        self.assertEqual(told(either, [first, Kind([], [[]])]), ("OtherGauges", "a"))

    def test_passed_lists_stay(self):
        kinds = [menu("a", [1]), menu("b", [2])]
        both(kinds)
        self.assertEqual(kinds, [menu("a", [1]), menu("b", [2])])


if __name__ == "__main__":
    unittest.main()

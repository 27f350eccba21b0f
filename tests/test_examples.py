"""The worked examples of point 80, word for word."""

import doctest
import unittest

KINDS = """
>>> from everyfuture.kinds import Kind
>>> kind = Kind(["b", "a"], [[(0, 1), (0, 3)], [(0, 4), (2, 5)]])
>>> [kind.gauges, kind.cells, kind.size(), kind.future_at(4)]
[('a', 'b'), (((0, 1), (0, 1)), ((2, 5), (0, 4))), 24, {'a': 2, 'b': 0}]
"""
LINES = """
>>> from everyfuture.lines import Line
>>> line = Line(0, -4, [(0, 5)]).fed(3, 2, 1)
>>> [line.base, line.left, line.corners, line(-2)]
[0, -4, ((-2, 1), (0, 4)), 6]
"""
PROMISES = """
>>> from everyfuture.promises import Promises
>>> curve = Promises([2], [["a"], [1]], fine=5).curve({"a": 3})
>>> [curve.base, curve.pieces, curve.lowest(), curve.level(4)]
[25, ((0, -3), (5, 2)), (10, 5, 5), [(4, 7)]]
"""
PLANS = """
>>> from everyfuture.plans import Plans
>>> from everyfuture.rises import later_costs, now_costs
>>> plans = Plans(("one", ["a", ("all", ["b", 2])]))
>>> [later_costs(plans, {"a": 5, "b": 3}, {"a": 4, "b": 2}), now_costs(plans, {"a": 5, "b": 3}, {"a": 4, "b": 2})]
[[5, 5, 7], [5, 7, 7]]
"""
ORDERS = """
>>> from everyfuture.orders import Orders
>>> orders = Orders([("a", 3, 5, 2, 1, 4), (6, "p", 2, 0, 1, 4)], urgent=10)
>>> [orders.finish({"a": 4, "p": 9}), orders.least({"a": 4, "p": 9}), orders.directions(4)]
[[10, 0], 46, [{'a': -1, 'p': -1}, {'a': 1, 'p': 1}]]
"""
WORKS = """
>>> from everyfuture.works import Works
>>> works = Works([[(1, 0), (3, "w")], [(2, 1)]])
>>> [works.lead(0, {"w": 1}), works.regret(0, {"w": 1}), works.level({"w": 2}, 0), works.finish({"w": 2})]
[(1, 4), 1, [(0, 1)], [0, 0, 1]]
"""


class Examples(unittest.TestCase):
    def check(self, text):
        example = doctest.DocTestParser().get_doctest(text, {}, "point 80", None, 0)
        printed = []
        result = doctest.DocTestRunner().run(example, out=printed.append)
        self.assertEqual(result.failed, 0, "".join(printed))
        self.assertGreater(result.attempted, 1)

    def test_kinds(self):
        self.check(KINDS)

    def test_lines(self):
        self.check(LINES)

    def test_promises(self):
        self.check(PROMISES)

    def test_plans(self):
        self.check(PLANS)

    def test_orders(self):
        self.check(ORDERS)

    def test_works(self):
        self.check(WORKS)


if __name__ == "__main__":
    unittest.main()

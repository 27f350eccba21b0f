"""The worked examples of point 80, word for word."""

import doctest
import unittest

KINDS = """
>>> from everyfuture.kinds import Kind
>>> kind = Kind(["b", "a"], [[(0, 1), (0, 3)], [(0, 4), (2, 5)]])
>>> [kind.gauges, kind.cells, kind.size(), kind.future_at(4)]
[('a', 'b'), (((0, 1), (0, 1)), ((2, 5), (0, 4))), 24, {'a': 2, 'b': 0}]
"""


class Examples(unittest.TestCase):
    def check(self, text):
        example = doctest.DocTestParser().get_doctest(text, {}, "point 80", None, 0)
        printed = []
        result = doctest.DocTestRunner().run(example, out=printed.append)
        self.assertEqual(result.failed, 0, "".join(printed))
        self.assertGreater(result.attempted, 1)

    def test_kinds(self):
        self.check(KINDS)


if __name__ == "__main__":
    unittest.main()

"""The examples of the interface, as they stand in the document."""

import doctest
import unittest

ROWS = """
>>> from toldproducts.rows import joined, met, places, relations, span, told_by
>>> [span([[(2, 1), (4, 1)], [(1, 1), (2, 1)]], 2), places([[(1, 1), (2, 1)]], [(3, 1), (6, 1)]), told_by([(0, 1), (1, 1)], [[(1, 1), (0, 1)], [(2, 1), (0, 1)], [(1, 1), (1, 1)]])]
[[[(1, 1), (2, 1)]], [(3, 1)], [(-1, 1), (0, 1), (1, 1)]]
>>> [relations([[(1, 1)], [(2, 1)]]), joined([[(1, 1), (0, 1)]], [[(1, 1), (1, 1)]], 2), met([[(1, 1), (0, 1)]], [[(1, 1), (1, 1)]], 2)]
[[[(1, 1), (-1, 2)]], [[(1, 1), (0, 1)], [(0, 1), (1, 1)]], []]
"""

TABLES = """
>>> from toldproducts.tables import Table, both_ways, left_ones, ones, opposite, over, with_one
>>> turn = Table([[[(1, 1), (0, 1)], [(0, 1), (1, 1)]], [[(0, 1), (1, 1)], [(-1, 1), (0, 1)]]])
>>> [turn([(0, 1), (1, 1)], [(0, 1), (2, 1)]), turn.size, ones(turn), opposite(turn) == turn, both_ways(turn, (-1, 1)).products[0][1], over(turn, [[(0, 1), (1, 1)], [(1, 1), (0, 1)]]).products[0][0]]
[[(-2, 1), (0, 1)], 2, [(1, 1), (0, 1)], True, [(0, 1), (0, 1)], [(0, 1), (-1, 1)]]
>>> second = Table([[[(1, 1), (0, 1)], [(0, 1), (1, 1)]], [[(1, 1), (0, 1)], [(0, 1), (1, 1)]]])
>>> [ones(second), left_ones(second), second([(3, 1), (4, 1)], [(1, 1), (2, 1)])]
[None, ([(0, 1), (1, 1)], [[(1, 1), (-1, 1)]]), [(7, 1), (14, 1)]]
"""


class Examples(unittest.TestCase):
    def check(self, text, name):
        test = doctest.DocTestParser().get_doctest(text, {}, name, name, 0)
        told = []
        results = doctest.DocTestRunner(verbose=False).run(test, out=told.append)
        self.assertGreater(results.attempted, 0)
        self.assertEqual(results.failed, 0, "".join(told))

    def test_rows(self):
        self.check(ROWS, "rows")

    def test_tables(self):
        self.check(TABLES, "tables")

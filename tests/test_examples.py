"""The examples of the document, as they stand there; names go on from one to the next.

tracewords/basics.py, tracewords/ratios.py

>>> from tracewords.ratios import Ratio
>>> [Ratio(4, -6), str(Ratio(1, 2) + 3), Ratio(1, 3).is_below(Ratio(2, 5))]
[Ratio(-2, 3), '7/2', True]

tracewords/solved.py

>>> from tracewords.solved import is_solution, kernel, solution, steps
>>> [steps([[0, 2, 4], [0, 3, 6]]) == [[Ratio(0), Ratio(1), Ratio(2)]], kernel([[1, 2]], 2) == [[Ratio(1), Ratio(-1, 2)]], kernel([], 1), kernel([[5]], 1)]
[True, True, [[Ratio(1, 1)]], []]
>>> [solution([[1, 1], [1, -1]], [3, 1]) == [Ratio(2), Ratio(1)], solution([[1, 1], [2, 2]], [1, 3]), is_solution([[1, 1]], [2], [5, -3]), is_solution([[1, 1]], [2], [1])]
[True, None, True, False]
"""
import doctest
import pathlib
import unittest

from tests import test_examples


class ExamplesTest(unittest.TestCase):
    def test_examples_of_the_document(self):
        failed, tried = doctest.testmod(test_examples)
        self.assertGreater(tried, 0)
        self.assertEqual(failed, 0)

    def test_examples_of_the_readme(self):
        readme = pathlib.Path(__file__).resolve().parent.parent / "README.md"
        failed, tried = doctest.testfile(str(readme), module_relative=False)
        self.assertGreater(tried, 0)
        self.assertEqual(failed, 0)


if __name__ == "__main__":
    unittest.main()

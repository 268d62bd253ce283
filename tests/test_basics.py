"""[2] What INTEGERS and COUNTS are."""
import unittest

from tests.helper import PackageTest, no_integers
from tracewords.basics import is_count, is_integer


class BasicsTest(PackageTest):
    def test_integers(self):
        for value in [0, 1, -1, 7, 10 ** 30, -10 ** 30]:
            self.gives(True, is_integer, value=value)

    def test_no_integers(self):
        for value in no_integers():
            self.assertIs(is_integer(value), False, value)

    def test_bools_are_none(self):
        self.gives(False, is_integer, value=True)
        self.gives(False, is_integer, value=False)
        self.gives(False, is_count, value=True)
        self.gives(False, is_count, value=False)

    def test_counts(self):
        for value in [0, 1, 2, 10 ** 30]:
            self.gives(True, is_count, value=value)

    def test_no_counts(self):
        for value in [-1, -2, -10 ** 30] + no_integers():
            self.assertIs(is_count(value), False, value)


if __name__ == "__main__":
    unittest.main()

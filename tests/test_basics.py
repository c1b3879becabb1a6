"""INTEGERS, COUNTS and NUMBERS among values of all kinds."""

import unittest

from tests.kinds import ALL_KINDS, LIST_KINDS, ODD_KINDS
from toldpushes.basics import is_count, is_integer, is_list
from toldpushes.ratios import Ratio, are_numbers, is_number

INTEGERS = [0, 1, -1, 2, 10 ** 30, -10 ** 30, 10 ** 1000]
RATIOS = [Ratio(0), Ratio(1), Ratio(2), Ratio(-3), Ratio(1, 2)]


class Basics(unittest.TestCase):

    def check(self, function, holds, fails):
        for value in holds:
            self.assertIs(function(value), True, value)
        for value in fails:
            self.assertIs(function(value), False)

    def test_integers(self):
        self.check(is_integer, INTEGERS, ODD_KINDS + LIST_KINDS + RATIOS)
        self.assertIs(is_integer(value=5), True)

    def test_counts(self):
        counts = [value for value in INTEGERS if value >= 0]
        self.check(is_count, counts, ODD_KINDS + LIST_KINDS + RATIOS + [-1, -2, -10 ** 30])
        self.assertIs(is_count(value=-1), False)

    def test_numbers(self):
        self.check(is_number, INTEGERS + RATIOS, ODD_KINDS + LIST_KINDS)
        self.assertIs(is_number(value=Ratio(1, 2)), True)

    def test_booleans_are_none(self):
        for value in (True, False):
            for function in (is_integer, is_count, is_number):
                self.assertIs(function(value), False)

    def test_lists(self):
        self.check(is_list, [[], (), [1], (True,)], [value for value in ALL_KINDS if not isinstance(value, (list, tuple))])
        self.check(are_numbers, [[], (), [1, Ratio(1, 2)], (0,)], [[True], [1, False], (None,), [[1]], "1", 1, range(2)])


if __name__ == "__main__":
    unittest.main()

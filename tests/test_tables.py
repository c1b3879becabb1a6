"""Tables: products, what undoes them, determinants, pivots, and what is refused."""

import random
import unittest
from fractions import Fraction

from tests.kinds import Stubborn, check_refused, check_stopped
from tests.reckoned import by_places, check_told, multiplied, of_fractions, of_ratios
from tests.wrong import NO_TABLES
from toldpushes.errors import InvalidSize, InvalidTable, NotSymmetric, NotUndone, UnlikeSizes
from toldpushes.ratios import Ratio
from toldpushes.tables import about, determinant, idle, is_above, is_symmetric, is_table, less, pivots, times, undone


def some_tables(seed, each=6):
    """Tables of each size from 0 to 6, some that nothing undoes, with INTEGERS and Ratios."""
    chance = random.Random(seed)
    found = []
    for size in range(7):
        for turn in range(each):
            table = [[chance.choice([0, 1, -2, 3, Ratio(1, 2), Ratio(-7, 3), chance.randint(-50, 50)]) for _ in range(size)]
                     for _ in range(size)]
            if turn == 0 and size:
                table[chance.randrange(size)] = [0] * size
            if turn == 1 and size > 1:
                table[0] = [2 * number for number in table[-1]]
            if turn == 2:
                table = [[0 if place < row else number for place, number in enumerate(line)] for row, line in enumerate(table)]
            if turn == 3 and size > 1:
                table[0][0] = table[1][0] = 0
            found.append(table)
    return found


def some_symmetric(seed):
    """Symmetric tables, above nought and not, with noughts among the pivots, too."""
    found = []
    for table in some_tables(seed):
        plain = of_fractions(table)
        turned = [list(column) for column in zip(*plain)]
        found.append(of_ratios(multiplied(turned, plain)))
        found.append(of_ratios([[a + b for a, b in zip(row, line)] for row, line in zip(plain, turned)]))
    return found


class Told(unittest.TestCase):

    def test_is_table(self):
        for table in some_tables(1) + [[], (), ((1,),), [(0,)], ([1, 2], (Ratio(1, 2), 0)), [[0] * 6] * 6]:
            self.assertIs(is_table(table), True)
        for value in NO_TABLES:
            self.assertIs(is_table(value), False)
        self.assertIs(is_table(value=[[1]]), True)

    def test_idle(self):
        for size in range(7):
            check_told(self, idle(size), [[int(i == j) for j in range(size)] for i in range(size)])
        check_told(self, idle(size=1), [[1]])

    def test_idle_refused(self):
        for size in [-1, 7, 10 ** 30, True, False, None, "1", [1], Ratio(1), Ratio(0), Stubborn(), [[1]]]:
            check_refused(self, InvalidSize, size, idle, size)
            check_refused(self, InvalidSize, size, idle, size=size)

    def test_times_and_less(self):
        for table, other in zip(some_tables(2), some_tables(3)):
            plain, line = of_fractions(table), of_fractions(other)
            check_told(self, times(table, other), multiplied(plain, line))
            check_told(self, times(other=other, table=table), multiplied(plain, line))
            wanted = [[a - b for a, b in zip(row, there)] for row, there in zip(plain, line)]
            check_told(self, less(table, other), wanted)
            check_told(self, less(other=other, table=tuple(tuple(row) for row in table)), wanted)
        check_told(self, times([[1, 2], [0, 3]], ((0, 1), (1, 0))), [[2, 1], [3, 0]])
        check_told(self, times([[0, 1], [1, 0]], [[1, 2], [0, 3]]), [[0, 3], [1, 2]])

    def test_about(self):
        for table in some_tables(4):
            check_told(self, about(table), [list(column) for column in zip(*of_fractions(table))])
        check_told(self, about(table=((1, 2), [3, Ratio(1, 2)])), [[1, 3], [2, Fraction(1, 2)]])

    def test_undone(self):
        undone_ones = 0
        for table in some_tables(5, each=9):
            if by_places(of_fractions(table)) == 0:
                check_stopped(self, NotUndone, undone, table)
            else:
                found = undone(table)
                plain, size = of_fractions(found), len(table)
                one = [[int(i == j) for j in range(size)] for i in range(size)]
                check_told(self, found, plain)
                self.assertEqual(multiplied(plain, of_fractions(table)), one)
                self.assertEqual(multiplied(of_fractions(table), plain), one)
                undone_ones += 1
        self.assertGreater(undone_ones, 20)
        check_told(self, undone([]), [])
        check_told(self, undone(table=((0, 2), (1, 0))), [[0, 1], [Fraction(1, 2), 0]])

    def test_not_undone(self):
        for table in ([[0]], [[1, 2], [2, 4]], [[0, 0], [1, 1]], [[1, 1], [Ratio(1, 3), Ratio(1, 3)]], [[0] * 6] * 6):
            check_stopped(self, NotUndone, undone, table)

    def test_determinant(self):
        for table in some_tables(6, each=9):
            found, wanted = determinant(table), by_places(of_fractions(table))
            self.assertIs(type(found), Ratio)
            self.assertEqual((found.top, found.bottom), (wanted.numerator, wanted.denominator))
        self.assertEqual([determinant([]), determinant(()), determinant([[-5]]), determinant(table=((0, 1), (1, 0)))],
                         [Ratio(1), Ratio(1), Ratio(-5), Ratio(-1)])

    def test_determinant_of_things_that_change_places(self):
        for order, sign in [([1, 2, 0], 1), ([0, 2, 1], -1), ([2, 1, 0], -1), ([3, 0, 1, 2], -1), ([1, 0, 3, 2], 1)]:
            table = [[int(place == thing) for place in range(len(order))] for thing in order]
            self.assertEqual(determinant(table), Ratio(sign))

    def test_symmetric(self):
        for table in some_tables(7) + some_symmetric(8):
            plain = of_fractions(table)
            self.assertIs(is_symmetric(table), plain == [list(column) for column in zip(*plain)])
        self.assertIs(is_symmetric(((1, Ratio(2)), [2, 1])), True)
        self.assertIs(is_symmetric(table=[[1, 2], [Ratio(-2), 1]]), False)
        self.assertIs(is_symmetric([]), True)

    def test_pivots(self):
        for table in some_symmetric(9):
            plain = of_fractions(table)
            wanted = [by_places([row[:many] for row in plain[:many]]) for many in range(1, len(table) + 1)]
            found = pivots(table)
            self.assertIs(type(found), list)
            self.assertEqual([type(number) for number in found], [Ratio] * len(table))
            self.assertEqual([Fraction(number.top, number.bottom) for number in found], wanted)
            self.assertIs(is_above(table), all(number > 0 for number in wanted))
        self.assertEqual(pivots([[0, 1], [1, 0]]), [Ratio(0), Ratio(-1)])
        self.assertEqual(pivots(table=((2, 1), (1, 1))), [Ratio(2), Ratio(1)])

    def test_pivots_not_symmetric(self):
        for table in ([[1, 2], [0, 3]], [[1, 0, 0], [0, 1, 0], [1, 0, 1]], [[1, Ratio(1, 2)], [Ratio(1, 3), 1]]):
            check_stopped(self, NotSymmetric, pivots, table)
            self.assertIs(is_above(table), False)

    def test_above(self):
        for table in ([], (), [[1]], [[Ratio(1, 9)]], [[2, 1], [1, 1]], [[2, -1, 0], [-1, 2, -1], [0, -1, 2]]):
            self.assertIs(is_above(table), True)
        for table in ([[0]], [[-1]], [[1, 2], [2, 1]], [[1, 1], [1, 1]], [[0, 0], [0, 1]], [[-1, 0], [0, -1]],
                      [[1, 0, 0], [0, -1, 0], [0, 0, -1]], [[0, 1], [1, 0]]):
            self.assertIs(is_above(table), False)
        self.assertIs(is_above(table=[[1, 1], [0, 1]]), False)
        self.assertEqual([is_above(idle(size)) for size in range(7)], [True] * 7)


class Refused(unittest.TestCase):

    def test_tables(self):
        for value in NO_TABLES:
            for call in (about, undone, determinant, is_symmetric, pivots, is_above):
                check_refused(self, InvalidTable, value, call, value)
                check_refused(self, InvalidTable, value, call, table=value)
            for call in (times, less):
                check_refused(self, InvalidTable, value, call, value, "later")
                check_refused(self, InvalidTable, value, call, other=[[1]], table=value)
                check_refused(self, InvalidTable, value, call, [[1]], value)
                check_refused(self, InvalidTable, value, call, other=value, table=[[1, 0], [0, 1]])

    def test_unlike_sizes(self):
        for first in range(7):
            for second in range(7):
                for call in (times, less):
                    if first != second:
                        check_stopped(self, UnlikeSizes, call, idle(first), idle(second))
                    else:
                        self.assertEqual(len(call(idle(first), idle(second))), first)

    def test_arguments_stay(self):
        table, other = [[2, Ratio(1, 2)], (Ratio(1, 2), 3)], [[1, 0], [5, 1]]
        for call in (lambda: times(table, other), lambda: less(table, other), lambda: about(table), lambda: undone(table),
                     lambda: determinant(table), lambda: pivots(table), lambda: is_above(table)):
            call()
            self.assertEqual((table, other), ([[2, Ratio(1, 2)], (Ratio(1, 2), 3)], [[1, 0], [5, 1]]))

    def test_lists_are_new(self):
        table = of_ratios([[1, 0], [0, 1]])
        calls = (lambda: idle(2), lambda: about(table), lambda: times(table, table), lambda: undone(table),
                 lambda: less(table, of_ratios([[0, 0], [0, 0]])))
        for call in calls:
            found = call()
            found[0][0] = "changed"
            found.append("more")
            self.assertEqual(call(), table)
        self.assertEqual(table, of_ratios([[1, 0], [0, 1]]))


if __name__ == "__main__":
    unittest.main()

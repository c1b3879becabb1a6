"""Steps, kernels, solutions and bars, against their definitions and against another way of reckoning."""

import random
import unittest
from fractions import Fraction

from tests.kinds import ALL_KINDS, Stubborn, all_but, check_refused, looped
from toldpushes.errors import InvalidGoals, InvalidMany, InvalidRows
from toldpushes.ratios import Ratio
from toldpushes.solved import bar, is_bar, is_solution, kernel, solution, steps

NO_ROWS = all_but([], (), [(0, 1)], [[0, 1]], [(0, 1, 2)], [(0,)])
UNLIKE = [[[1, 2], [1]], [[1], [1, 2]], [[1], []], [[], [1]], [[]], ((1,), (1, 2)), [[1, 2], [1, 2], [1, 2, 3]]]
TOO_GREAT = [[[1]] * 61, [[1] * 61], [[0] * 60] * 61]
WITH_OTHERS = [[[True]], [[1, False]], [[1, 2], [1, True]], [[1], "1"], [[1], None], [[1], 1], [["1"]], [[None]], [[[1]]],
               [[1], {1: 1}], [{1}], [[1], range(1)], [[1], Stubborn()], [[1, Stubborn()]], looped()]
WRONG_ROWS = UNLIKE + TOO_GREAT + WITH_OTHERS


def fractions_of(rows):
    return [[Fraction(number.top, number.bottom) if isinstance(number, Ratio) else Fraction(number) for number in row]
            for row in rows]


def plain_steps(rows):
    """The steps, told by plain elimination with Fractions."""
    rows, done = fractions_of(rows), 0
    for place in range(len(rows[0]) if rows else 0):
        found = [at for at in range(done, len(rows)) if rows[at][place]]
        if found:
            rows[done], rows[found[0]] = rows[found[0]], rows[done]
            rows[done] = [number / rows[done][place] for number in rows[done]]
            for at, row in enumerate(rows):
                if at != done:
                    rows[at] = [number - row[place] * lead for number, lead in zip(row, rows[done])]
            done += 1
    return rows[:done]


def some_rows(chance, many, wide, rank=None):
    """Rows of small NUMBERS; with a rank, all but so many are made of others."""
    rows = [[chance.choice([0, 0, 1, -1, 2, -7, Ratio(1, 2), Ratio(-5, 3), chance.randint(-99, 99)]) for _ in range(wide)]
            for _ in range(many)]
    if rank is not None:
        for at in range(rank, many):
            rows[at] = [0] * wide
            for lead in rows[:rank]:
                by = chance.randint(-2, 2)
                rows[at] = [number + by * worth for number, worth in zip(rows[at], lead)]
    chance.shuffle(rows)
    return rows


def all_rows():
    chance = random.Random(5)
    sizes = [(1, 1), (1, 4), (4, 1), (2, 2), (2, 5), (5, 2), (3, 3), (4, 6), (6, 4), (7, 7)]
    found = [some_rows(chance, many, wide, rank) for many, wide in sizes for rank in (None, 0, 1, 2) for _ in range(4)
             if rank is None or rank <= many]
    return found + [[[0]], [[0, 0], [0, 0]], [[5]], [[Ratio(-1, 3)]], [[0, 3]], [[1, 1], [1, 1], [2, 2]]]


def worth(rows):
    return [[Ratio(number) if isinstance(number, int) else number for number in row] for row in rows]


class Rows(unittest.TestCase):

    def check_list(self, rows):
        self.assertIs(type(rows), list)
        for row in rows:
            self.assertIs(type(row), list)
            for number in row:
                self.assertIs(type(number), Ratio)

    def test_steps(self):
        for rows in all_rows():
            found = steps(rows)
            self.check_list(found)
            self.assertEqual(fractions_of(found), plain_steps(rows))
            self.assertEqual(steps(tuple(tuple(row) for row in rows)), found)
            self.assertEqual(steps(found), found)

    def test_steps_of_rows_that_make_the_same(self):
        rows = [[0, 2, 4, 1], [1, 1, 1, 1], [3, 0, -1, 2]]
        made = [[Ratio(1, 2) * number for number in rows[1]], rows[2], [a + b for a, b in zip(rows[0], rows[2])], [0] * 4]
        self.assertEqual(steps(made), steps(rows))
        self.assertEqual(steps(made[::-1]), steps(rows))

    def test_steps_of_none(self):
        self.assertEqual([steps([]), steps(()), steps([[0]]), steps([[0, 0], [0, 0]])], [[], [], [], []])
        self.assertEqual(steps(rows=[[0, -4]]), [[Ratio(0), Ratio(1)]])

    def test_kernel(self):
        for rows in all_rows():
            wide = len(rows[0])
            found = kernel(rows, wide)
            self.check_list(found)
            self.assertEqual(len(found) + len(steps(rows)), wide)
            self.assertEqual(steps(found), found)
            for line in fractions_of(found):
                for row in fractions_of(rows):
                    self.assertEqual(sum(a * b for a, b in zip(row, line)), 0)
            self.assertEqual(kernel(tuple(tuple(row) for row in rows), wide), found)

    def test_kernel_told(self):
        self.assertEqual(kernel([[1, 1, 1]], 3), worth([[1, 0, -1], [0, 1, -1]]))
        self.assertEqual(kernel([[1, 0, 0]], 3), worth([[0, 1, 0], [0, 0, 1]]))
        self.assertEqual(kernel([[0, 0]], 2), worth([[1, 0], [0, 1]]))
        self.assertEqual(kernel(wide=3, rows=[[1, 2, 0], [0, 0, 1]]), [[Ratio(1), Ratio(-1, 2), Ratio(0)]])

    def test_kernel_of_each_width(self):
        for wide in range(1, 61):
            lines = [[Ratio(int(place == at)) for place in range(wide)] for at in range(wide)]
            self.assertEqual(kernel([], wide), lines)
            self.assertEqual(kernel((), wide), lines)
            self.assertEqual(kernel([[0] * wide], wide), lines)
            self.assertEqual(kernel(lines, wide), [])
            self.assertEqual(len(kernel([[1] * wide], wide)), wide - 1)

    def test_kernel_of_no_width(self):
        for wide in [0, -1, 61, 10 ** 30, True, False, None, "1", [1], Ratio(1), Ratio(2), Stubborn()]:
            check_refused(self, InvalidMany, wide, kernel, [], wide)
            check_refused(self, InvalidMany, wide, kernel, [[1, 2]], wide)
            check_refused(self, InvalidRows, [[1], [1, 2]], kernel, [[1], [1, 2]], wide)
        for rows, wide in [([[1, 2]], 1), ([[1, 2]], 3), (((1,), (2,)), 60), ([[0] * 60], 59)]:
            check_refused(self, InvalidRows, rows, kernel, rows, wide)
            check_refused(self, InvalidRows, rows, kernel, wide=wide, rows=rows)

    def test_just_one_of_solution_and_bar(self):
        chance = random.Random(6)
        solved = barred = 0
        for rows in all_rows():
            for goals in ([chance.randint(-3, 3) for _ in rows], [0] * len(rows),
                          [Ratio.total([a * Ratio(k, 2) for k, a in enumerate(row)]) for row in rows]):
                found, shown = solution(rows, goals), bar(rows, goals)
                self.assertEqual((found is None) + (shown is None), 1)
                self.check_found(rows, goals, found, shown)
                solved, barred = solved + (shown is None), barred + (found is None)
                again = tuple(tuple(row) for row in rows), tuple(goals)
                self.assertEqual((solution(*again), bar(*again)), (found, shown))
        self.assertGreater(min(solved, barred), 30)

    def check_found(self, rows, goals, found, shown):
        plain, (aims,) = fractions_of(rows), fractions_of([goals])
        if found is not None:
            self.check_list([found])
            (numbers,) = fractions_of([found])
            self.assertEqual([sum(a * b for a, b in zip(row, numbers)) for row in plain], aims)
            self.assertEqual(len(found), len(rows[0]))
        else:
            self.check_list([shown])
            (numbers,) = fractions_of([shown])
            self.assertEqual(len(shown), len(rows))
            self.assertEqual([sum(a * b for a, b in zip(column, numbers)) for column in zip(*plain)], [0] * len(plain[0]))
            self.assertNotEqual(sum(a * b for a, b in zip(aims, numbers)), 0)
        self.assertIs(is_solution(rows, goals, found), found is not None)
        self.assertIs(is_bar(rows, goals, shown), shown is not None)

    def test_greatest_sizes(self):
        chance = random.Random(7)
        for rank, most in [(60, 999999), (59, 999999), (30, 99), (1, 3), (0, 0)]:
            rows = [[chance.randint(-most, most) for _ in range(60)] for _ in range(60)]
            for at in range(rank, 60):
                rows[at] = [2 * number - other for number, other in zip(rows[0], rows[max(rank, 1) - 1])] if rank else [0] * 60
            goals = [chance.randint(-9, 9) for _ in range(59)] + [10]
            self.assertEqual([len(steps(rows)), len(kernel(rows, 60))], [rank, 60 - rank])
            found, shown = solution(rows, goals), bar(rows, goals)
            self.assertEqual((found is None) + (shown is None), 1)
            self.assertIs(is_solution(rows, goals, found), rank == 60)
            self.assertIs(is_bar(rows, goals, shown), rank != 60)

    def test_greatest_width_or_many_alone(self):
        wide, tall = [list(range(1, 61))], [[number] for number in range(1, 61)]
        self.assertEqual([len(kernel(wide, 60)), steps(tall)], [59, [[Ratio(1)]]])
        self.assertIs(is_solution(wide, [7], solution(wide, [7])), True)
        self.assertEqual(solution(tall, [3 * number for number in range(1, 61)]), [Ratio(3)])
        self.assertIs(is_bar(tall, [1] * 60, bar(tall, [1] * 60)), True)


class Judged(unittest.TestCase):

    def test_solutions(self):
        rows, goals = [[1, 1], [2, 2]], [2, 4]
        for value in ([2, 0], (5, -3), [Ratio(1, 2), Ratio(3, 2)], (Ratio(2), 0)):
            self.assertIs(is_solution(rows, goals, value), True)
        for value in ([2, 1], [2], [2, 0, 0], [], [2, False], [True, 1], [True, True], "20", {2: 0}, [[2, 0]], [None, 2]):
            self.assertIs(is_solution(rows, goals, value), False)
        self.assertIs(is_solution(goals=[Ratio(6, 2)], value=[Ratio(1)], rows=[[3]]), True)
        self.assertIs(is_solution([[1, 0], [0, 1]], [1, 2], [1, 3]), False)
        self.assertIs(is_solution([[1, 0], [0, 1]], [1, 2], [0, 2]), False)

    def test_bars(self):
        rows, goals = [[1, 1], [2, 2], [0, 0]], [1, 3, 0]
        for value in ([2, -1, 0], (-4, 2, 5), [Ratio(2, 3), Ratio(-1, 3), 0]):
            self.assertIs(is_bar(rows, goals, value), True)
        for value in ([2, 1, 0], [0, 0, 0], [0, 0, 1], [2, -1], [2, -1, 0, 0], [2, -1, False], "abc", None, [[2, -1, 0]]):
            self.assertIs(is_bar(rows, goals, value), False)
        self.assertIs(is_bar(goals=[1], value=[-5], rows=[[0]]), True)
        self.assertIs(is_bar([[0, 1], [0, 1]], [1, 0], [1, -1]), True)
        self.assertIs(is_bar([[1, 0], [0, 1]], [1, 0], [1, 0]), False)
        self.assertIs(is_bar([[0, 1]], [1], [1]), False)
        self.assertIs(is_bar([[1, 0]], [1], [1]), False)

    def test_values_of_all_kinds(self):
        for value in ALL_KINDS:
            self.assertIs(is_solution([[1, 2]], [3], value), False)
            self.assertIs(is_bar([[1, 2]], [3], value), False)
        self.assertIs(is_solution([[1]], [0], [0]), True)
        self.assertIs(is_bar([[1], [1]], [0, 1], [True, -1]), False)


class Refused(unittest.TestCase):

    def test_rows(self):
        for rows in NO_ROWS + WRONG_ROWS:
            check_refused(self, InvalidRows, rows, steps, rows)
            check_refused(self, InvalidRows, rows, steps, rows=rows)
            check_refused(self, InvalidRows, rows, kernel, rows, 1)
            check_refused(self, InvalidRows, rows, kernel, rows, "later")
            for call in (solution, bar):
                check_refused(self, InvalidRows, rows, call, rows, "later")
                check_refused(self, InvalidRows, rows, call, goals=[1], rows=rows)
            for call in (is_solution, is_bar):
                check_refused(self, InvalidRows, rows, call, rows, "later", [1])
                check_refused(self, InvalidRows, rows, call, goals=[1], rows=rows, value=[1])

    def test_no_rows(self):
        for rows in ([], ()):
            for call in (solution, bar):
                check_refused(self, InvalidRows, rows, call, rows, [])
                check_refused(self, InvalidRows, rows, call, rows, "later")
            for call in (is_solution, is_bar):
                check_refused(self, InvalidRows, rows, call, rows, [], [])

    def test_goals(self):
        rows = [[1, 2], [3, 4]]
        for goals in all_but([1, 0]) + [[1], [1, 2, 3], (1,), [1, True], [None, 1], "12", {0: 1, 1: 2}, {1, 2}, range(2)]:
            for call in (solution, bar):
                check_refused(self, InvalidGoals, goals, call, rows, goals)
            for call in (is_solution, is_bar):
                check_refused(self, InvalidGoals, goals, call, rows, goals, None)

    def test_arguments_stay(self):
        rows, goals = [[2, Ratio(1, 2)], [0, 3], [2, 1]], [1, 2, Ratio(5)]
        for call in (lambda: steps(rows), lambda: kernel(rows, 2), lambda: solution(rows, goals), lambda: bar(rows, goals),
                     lambda: is_solution(rows, goals, [1, 2]), lambda: is_bar(rows, goals, [1, 2, 3])):
            call()
            self.assertEqual((rows, goals), ([[2, Ratio(1, 2)], [0, 3], [2, 1]], [1, 2, Ratio(5)]))

    def test_lists_are_new(self):
        for call in (lambda: steps([[1, 0], [0, 1]]), lambda: kernel([[0, 0]], 2)):
            found = call()
            found[0][0] = "changed"
            found[1].append("more")
            self.assertEqual(call(), worth([[1, 0], [0, 1]]))
        found = kernel([], 2)
        self.assertIsNot(found[0], found[1])


if __name__ == "__main__":
    unittest.main()

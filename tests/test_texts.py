"""Sorts and written forms."""

import random
import unittest

from tests.drawn import all_arrows, all_ties, drawings
from tests.kinds import ALL_KINDS, Stubborn, check_fresh, check_parameters, check_refused, looped, same
from tests.told import lots_of, some_tellings
from tests.wrong import NO_TABLES
from toldpushes.errors import InvalidSort, InvalidValue
from toldpushes.plans import Plan
from toldpushes.ratios import Ratio
from toldpushes.tables import is_table
from toldpushes.texts import is_of_sort, sorts, written

SORTS = ["numbers", "table", "lot", "arrows", "plan", "telling", "road"]

NO_SORTS = ALL_KINDS + ["tables", "Plan", "plan ", " plan", "number", "lots", "tie", "line", ["plan"], ("plan",), "numbers\n", b"plan"]

# What is none of a sort, beside values of all kinds.
NO_VALUES = {
    "numbers": [[0] * 41, (Ratio(1, 2),) * 41, [0, True], [1, None], [1, "2"], [[1]], range(3), {1: 2}, "1", [Stubborn()], [1j]],
    "table": NO_TABLES,
    "lot": [[6], [0, 6], [-1], [1, 0], [0, 0], [0, 1, 1], [True], [0, Ratio(1)], [0, "1"], "01", {0: 1}, [0, 1, 2, 3, 4, 5, 6], range(2),
            [0, Stubborn()]],
    "arrows": [[(0, 0)], [(5, 5)], [(0, 6)], [(6, 0)], [(-1, 0)], [(0, 1), (0, 1)], [[0, 1]], [(0, 1), [1, 2]], [(0, True)], [(0, 1, 2)],
               [(0,)], [(0, Ratio(1))], ((0, 1), (1, 0), (0, 1)), (0, 1), {(0, 1): 1}, "01", [(0, Stubborn())], [Stubborn()]],
    "plan": [Plan, "plan 0\n", (0, [], []), [Plan(0, [], [])], (Plan(0, [], []),)],
    "telling": [[[[0]], [[1]]], ([[0]],), ([[0]], [[1]], [[1]]), ([[0]], []), ([], [[0]]), ([[0]], [[0, 1], [1, 0]]), ([[True]], [[1]]),
                ([[0]], [["1"]]), ([[0] * 7] * 7, [[0] * 7] * 7), {0: [[0]], 1: [[1]]}, ([[0]], None), (Stubborn(), [[1]]),
                ([[0]], Stubborn()), (looped(), looped()), iter(([[0]], [[1]]))],
    "road": [([], [0]), ([0], []), ([], []), [[0], [0]], ([0],), ([0], [0], [0]), ([6], [0]), ([0], [6]), ([0], [-1]), ([True], [0]),
             ([0], [Ratio(0)]), ([0] * 7, [0]), ([0], [0, 1, 2, 3, 4, 5, 0]), ("0", [0]), ([0], {0: 0}), ([0], None), ([0], [None]),
             ([0], Stubborn()), ([Stubborn()], [0]), (0, 1), ([[0]], [0])],
}

# Values of the kinds for all tests that are of a sort.
KINDS = {
    "numbers": [[], (), [0], (0,), [1, 0]], "table": [[], (), [(0,)]], "lot": [[], (), [0], (0,)], "arrows": [[], (), [(0, 1)]],
    "plan": [Plan(0, [], []), Plan(2, [(0, 1)], [])], "telling": [], "road": [],
}


def no_values(sort):
    return NO_VALUES[sort] + [value for value in ALL_KINDS if not any(same(value, one) for one in KINDS[sort])]


class Sorts(unittest.TestCase):

    def test_sorts(self):
        self.assertEqual(sorts(), SORTS)
        self.assertIs(type(sorts()), list)
        check_fresh(self, sorts)

    def test_is_of_sort(self):
        for sort in SORTS:
            for value in no_values(sort):
                self.assertIs(is_of_sort(sort, value), False, (sort, value))
            for value in KINDS[sort]:
                self.assertIs(is_of_sort(value=value, sort=sort), True)

    def test_lists_and_tuples(self):
        for sort, value in (("numbers", (1, Ratio(1, 2))), ("numbers", (0,) * 40), ("table", ((1, 2), [3, 4])), ("lot", (0, 1, 2, 3, 4, 5)),
                            ("arrows", ((1, 0), (0, 1))), ("telling", (((1,),), [[2]])), ("telling", ([], ())),
                            ("telling", ([[1, 2], [3, 4]], ((0, 0), (1, 0)))),
                            ("road", ((1, 1, 1, 1, 1, 1), (2,))), ("road", ([0], (0, 1, 2, 3, 4, 5)))):
            self.assertIs(is_of_sort(sort, value), True)
        # A road need be none of a plan, a telling none of a plan either, arrows may make rings.
        self.assertIs(is_of_sort("arrows", all_arrows(6)), True)

    def test_tables(self):
        for _, (pushes, own) in some_tellings(141):
            for table in (pushes, own):
                self.assertIs(is_of_sort("table", table), True)
            self.assertIs(is_of_sort("telling", (pushes, own)), True)
            self.assertIs(is_of_sort("telling", (own, pushes)), True)
            self.assertIs(is_of_sort("telling", [pushes, own]), False)
        for value in ALL_KINDS:
            self.assertIs(is_of_sort("table", value), is_table(value))

    def test_lots_and_plans(self):
        for lot in lots_of(6):
            self.assertIs(is_of_sort("lot", lot), True)
            self.assertIs(is_of_sort("lot", lot[::-1]), len(lot) < 2)
        for drawing in drawings():
            self.assertIs(is_of_sort("plan", Plan(*drawing)), True)
            self.assertIs(is_of_sort("arrows", drawing[1]), True)


class Written(unittest.TestCase):

    def test_numbers(self):
        for value, text in (([], "numbers\n"), ((), "numbers\n"), ([0], "numbers 0\n"), ([Ratio(0)], "numbers 0\n"),
                            ([1, -1, 10, -20], "numbers 1 -1 10 -20\n"), ([Ratio(6, 2), Ratio(-6, 2)], "numbers 3 -3\n"),
                            ((Ratio(1, 2), Ratio(-4, 6)), "numbers 1/2 -2/3\n"), ([10 ** 30], f"numbers 1{'0' * 30}\n"),
                            ([7] * 40, "numbers" + " 7" * 40 + "\n"), ([Ratio(10 ** 6 - 1, 10 ** 6)], "numbers 999999/1000000\n")):
            self.assertEqual(written("numbers", value), text)
            self.assertEqual(written(value=list(value), sort="numbers"), text)

    def test_tables(self):
        for size in range(7):
            table = [[Ratio(row - place, 2) for place in range(size)] for row in range(size)]
            rows = "".join("line" + "".join(f" {Ratio(row - place, 2)}" for place in range(size)) + "\n" for row in range(size))
            self.assertEqual(written("table", table), f"table {size}\n{rows}")
            self.assertEqual(written("table", tuple(tuple(row) for row in table)), f"table {size}\n{rows}")
            other = [[10 * row + place for place in range(size)] for row in range(size)]
            told = f"telling {size}\n" + rows.replace("line", "push")
            told += "".join("own " + " ".join(str(number) for number in row) + "\n" for row in other)
            self.assertEqual(written("telling", (table, other)), told)
            self.assertEqual(written("telling", (tuple(table), [tuple(row) for row in other])), told)
        self.assertEqual(written("telling", ([], ())), "telling 0\n")

    def test_lots(self):
        for lot in lots_of(6):
            self.assertEqual(written("lot", lot), "lot" + "".join(f" {thing}" for thing in lot) + "\n")
            self.assertEqual(written("lot", tuple(lot)), written("lot", lot))

    def test_arrows_stand_rising(self):
        chance = random.Random(142)
        for many in (0, 1, 2, 5, 17, 30):
            arrows = chance.sample(all_arrows(6), many)
            text = "arrows\n" + "".join(f"arrow {start} {end}\n" for start, end in sorted(arrows))
            self.assertEqual([written("arrows", arrows), written("arrows", tuple(arrows[::-1]))], [text, text])

    def test_plans(self):
        for size, arrows, ties in drawings():
            text = f"plan {size}\n" + "".join(f"arrow {start} {end}\n" for start, end in sorted(arrows))
            text += "".join(f"tie {low} {high}\n" for low, high in sorted(ties))
            self.assertEqual(written("plan", Plan(size, arrows, ties)), text)
            self.assertEqual(written("plan", Plan(size, arrows[::-1], tuple(ties[::-1]))), text)
        self.assertEqual(written("plan", Plan(6, all_ties(6), all_ties(6))).count("\n"), 31)

    def test_roads(self):
        for value, text in ((([0], [0]), "road\nup 0\ndown 0\n"), (([5, 4, 3], (2, 1)), "road\nup 5 4 3\ndown 2 1\n"),
                            (((0, 1, 2, 3, 4, 5), [1] * 6), "road\nup 0 1 2 3 4 5\ndown 1 1 1 1 1 1\n")):
            self.assertEqual(written("road", value), text)

    def test_refused(self):
        for sort in SORTS:
            value = {"numbers": [1], "table": [], "lot": [0], "arrows": [], "plan": Plan(0, [], []), "telling": ([], []), "road": ([0], [0])}[sort]
            check_parameters(self, written, {"sort": sort, "value": value},
                             {"sort": (InvalidSort, NO_SORTS), "value": (InvalidValue, no_values(sort))})
            for other in NO_SORTS:
                check_refused(self, InvalidSort, other, is_of_sort, other, value)
                check_refused(self, InvalidSort, other, is_of_sort, value=Stubborn(), sort=other)

    def test_fresh(self):
        for sort, value in (("numbers", [1, 2]), ("table", [[1, 2], [3, 4]]), ("lot", [0, 2]), ("arrows", [(1, 0), (0, 1)]),
                            ("plan", Plan(2, [(1, 0)], [])), ("telling", ([[1]], [[2]])), ("road", ([0, 1], [1]))):
            check_fresh(self, written, sort, value)
            check_fresh(self, is_of_sort, sort, value)


if __name__ == "__main__":
    unittest.main()

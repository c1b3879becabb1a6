"""Tellings led from one plan to another one, along an order, and to the plan of all ties."""

import random
import unittest
from itertools import permutations

from tests.drawn import all_ties
from tests.kinds import ALL_KINDS, Stubborn, check_fresh, check_parameters, check_refused, check_stopped
from tests.reckoned import by_places, check_told, of_fractions, of_ratios, solved_plainly
from tests.test_full import is_full_by_definition
from tests.told import bars_of, is_above_nought, some_own, some_symmetric, some_tellings, table_by_definition
from tests.wrong import LINE, NO_OWNS, NO_PLANS, NO_SYMMETRIC, NO_TELLINGS, OWN, PUSHES
from tests.test_plans import NO_SIZES
from toldpushes.errors import InvalidOrder, InvalidPlan, InvalidSize, InvalidTable, InvalidTelling, NotAbove, NotFull
from toldpushes.full import full_plans
from toldpushes.moved import all_ties as tied_telling
from toldpushes.moved import by_order, moved
from toldpushes.plans import Plan
from toldpushes.ratios import Ratio
from toldpushes.tellings import is_telling
from toldpushes.twins import twins

# What is no list of three things, each once, behind which a table may be right.
NO_ORDERS = ALL_KINDS + [[0, 1], [0, 1, 2, 3], [0, 1, 1], [2, 2, 2], [1, 2, 3], [0, 1, -1], [0, True, 2], [False, 1, 2], [0, 1, Ratio(2)],
                         [0, 1, "2"], "012", [[0, 1, 2]], [0, 1, None], {0: 1, 1: 2, 2: 0}, {0, 1, 2}, range(3), iter([0, 1, 2]),
                         [0, 1, Stubborn()], (0, 1), (0, 1, 1), [0, 1, [2]]]


def all_along(size, order):
    """All arrows from the things of an order to each later one."""
    return [(order[i], order[j]) for i, j in all_ties(size)]


def full_ones(size):
    """Full plans of this size: rising ones, such along orders that do not rise, mixed ones, and the plan of all ties."""
    found = full_plans(size)[::5] if size < 5 else [Plan(size, all_ties(size), [])]
    mixed = [Plan(5, [(4, 0), (4, 1), (2, 3), (1, 0)], [(0, 2), (0, 3), (1, 2), (1, 3), (2, 4), (3, 4)]),
             Plan(6, [(5, 2), (5, 0), (3, 1)], [(0, 1), (0, 2), (0, 3), (0, 4), (1, 2), (1, 4), (1, 5), (2, 3), (2, 4), (3, 4), (3, 5), (4, 5)])]
    along = [Plan(size, all_along(size, order), []) for order in list(permutations(range(size)))[1::7]]
    return found + along[:3] + [plan for plan in mixed if plan.width == size] + [Plan(size, [], all_ties(size))]


FULL_ONES = [full_ones(size) for size in range(7)]


class Moved(unittest.TestCase):

    def test_full_ones(self):
        for plans in FULL_ONES:
            self.assertTrue(all(is_full_by_definition(plan) for plan in plans))

    def check_moved(self, plan, other, telling):
        told = moved(plan, other, telling)
        self.assertIs(type(told), tuple)
        self.assertIs(is_telling(other, told), True)
        check_told(self, told[0], of_fractions(told[0]))
        check_told(self, told[1], of_fractions(told[1]))
        self.assertEqual(table_by_definition(told), table_by_definition(telling))
        return told

    def test_to_full_plans(self):
        full, barred, plain = 0, 0, 0
        for plan, telling in some_tellings(101):
            for other in FULL_ONES[plan.width][-4:]:
                self.check_moved(plan, other, telling)
            full += is_full_by_definition(plan)
            barred += len(bars_of(plan)) > 0
            plain += not bars_of(plan) and not is_full_by_definition(plan)
        self.assertGreater(min(full, barred, plain), 2)

    def test_there_and_back(self):
        chance = random.Random(102)
        for size in range(7):
            plans = FULL_ONES[size]
            for _ in range(4):
                plan, other = chance.choice(plans), chance.choice(plans)
                table = some_own(Plan(size, [], all_ties(size)), chance)
                telling = self.check_moved(Plan(size, [], all_ties(size)), plan, (of_ratios([[0] * size] * size), table))
                there = self.check_moved(plan, other, telling)
                self.assertEqual(moved(other, plan, there), telling)
                self.assertEqual(moved(plan, plan, telling), telling)

    def test_twins_are_led_to_one_telling(self):
        bow = Plan(2, [(0, 1)], [(0, 1)])
        for other in (Plan(2, [(0, 1)], []), Plan(2, [(1, 0)], []), Plan(2, [], [(0, 1)])):
            one, two = twins(bow)
            self.assertEqual(self.check_moved(bow, other, one), self.check_moved(bow, other, two))

    def test_by_names(self):
        step, tied = Plan(2, [(0, 1)], []), Plan(2, [], [(0, 1)])
        telling = ((0, Ratio(1, 2)), [0, 0]), [(1, 0), (0, 3)]
        told = moved(telling=telling, other=tied, plan=step)
        self.assertEqual(told, (of_ratios([[0, 0], [0, 0]]), [[Ratio(1), Ratio(1, 2)], [Ratio(1, 2), Ratio(13, 4)]]))
        self.assertEqual(moved(Plan(0, [], []), Plan(0, [], []), ((), [])), ([], []))

    def test_not_full(self):
        step = Plan(2, [(0, 1)], [])
        telling = [[0, 2], [0, 0]], [[1, 0], [0, 1]]
        for other in (Plan(2, [], []), Plan(2, [(0, 1)], [(0, 1)]), Plan(2, [(1, 0)], [(0, 1)])):
            check_stopped(self, NotFull, moved, step, other, telling)
            # What is wrong with the telling comes ahead of it.
            check_refused(self, InvalidTelling, (telling[0],), moved, step, other, (telling[0],))
        # Each two of four things have just one arrow or tie, but they are barred.
        chain, square = Plan(4, [(0, 1), (1, 2), (2, 3)], [(0, 2), (0, 3), (1, 3)]), [[0] * 4] * 4
        check_stopped(self, NotFull, moved, Plan(4, [], []), chain, (square, [[int(i == j) for j in range(4)] for i in range(4)]))

    def test_refused(self):
        full = Plan(3, [], all_ties(3))
        others = [value for value in NO_PLANS if not isinstance(value, Plan)]
        others += [Plan(size, [], all_ties(size)) for size in (0, 1, 2, 4, 6)] + [Plan(2, [(0, 1)], []), Plan(4, [], [])]
        for other in (full, Plan(3, [(0, 1)], [])):
            check_parameters(self, moved, {"plan": LINE, "other": other, "telling": (PUSHES, OWN)},
                             {"plan": (InvalidPlan, NO_PLANS), "other": (InvalidPlan, others), "telling": (InvalidTelling, NO_TELLINGS)})
        # A telling of the other plan is none of the plan.
        check_refused(self, InvalidTelling, (PUSHES, OWN), moved, full, LINE, (PUSHES, OWN))

    def test_fresh(self):
        check_fresh(self, moved, LINE, Plan(3, [], all_ties(3)), (PUSHES, OWN))
        check_fresh(self, moved, LINE, Plan(3, all_ties(3), []), (PUSHES, OWN))
        tied = Plan(2, [], [(0, 1)])
        check_fresh(self, moved, tied, tied, (of_ratios([[0, 0], [0, 0]]), of_ratios([[2, 1], [1, 2]])))


class ByOrder(unittest.TestCase):

    def check_by_order(self, size, order, table):
        """Pushes are the numbers by which rows of those earlier add up; own is on the line, with the pivots on the way."""
        told = by_order(size, order, table)
        pushes, own = told
        plain = of_fractions(table)
        wanted = [[0] * size for _ in range(size)]
        for at, thing in enumerate(order):
            earlier = order[:at]
            columns = [[plain[row][place] for row in earlier] for place in earlier]
            for row, number in zip(earlier, solved_plainly(columns, [plain[thing][place] for place in earlier]) if earlier else []):
                wanted[row][thing] = number
        check_told(self, pushes, wanted)
        line, product, sorted_table = of_fractions(own), 1, [[plain[row][place] for place in order] for row in order]
        check_told(self, own, [[line[i][j] if i == j else 0 for j in range(size)] for i in range(size)])
        for at, thing in enumerate(order):
            product *= line[thing][thing]
            self.assertEqual(product, by_places([row[:at + 1] for row in sorted_table[:at + 1]]))
        self.assertIs(is_telling(Plan(size, all_along(size, order), []), told), True)
        self.assertEqual(table_by_definition(told), plain)
        self.assertEqual(by_order(table=tuple(table), order=tuple(order), size=size), told)

    def test_all_orders(self):
        chance = random.Random(103)
        for size in range(7):
            orders = list(permutations(range(size)))
            for order in orders if size < 4 else chance.sample(orders, 10):
                self.check_by_order(size, list(order), some_own(Plan(size, [], all_ties(size)), chance))

    def test_few_things(self):
        self.assertEqual([by_order(0, [], []), by_order(0, (), ())], [([], []), ([], [])])
        self.assertEqual(by_order(1, [0], [[Ratio(3, 2)]]), ([[Ratio(0)]], [[Ratio(3, 2)]]))
        self.assertEqual(by_order(2, [1, 0], [[1, 2], [2, 5]]),
                         ([[Ratio(0), Ratio(0)], [Ratio(2, 5), Ratio(0)]], [[Ratio(1, 5), Ratio(0)], [Ratio(0), Ratio(5)]]))

    def test_not_above(self):
        chance, many = random.Random(104), 0
        for _ in range(60):
            size = chance.choice([2, 3, 4])
            order, table = chance.sample(range(size), size), some_symmetric(size, chance)
            if is_above_nought(of_fractions(table)):
                self.check_by_order(size, order, table)
                many += 1
            else:
                check_stopped(self, NotAbove, by_order, size, order, table)
                check_stopped(self, NotAbove, tied_telling, size, table)
        self.assertGreater(many, 2)
        for table in NO_OWNS[-6:]:
            check_stopped(self, NotAbove, by_order, 3, [2, 0, 1], table)

    def test_refused(self):
        check_parameters(self, by_order, {"size": 3, "order": [2, 0, 1], "table": OWN},
                         {"size": (InvalidSize, NO_SIZES), "order": (InvalidOrder, NO_ORDERS), "table": (InvalidTable, NO_SYMMETRIC)})
        for size, order in ((0, [0]), (1, []), (1, [1]), (2, [0]), (2, [0, 1, 2]), (6, list(range(5)))):
            check_refused(self, InvalidOrder, order, by_order, size, order, [[1, 2], [2, 1]])
        # A table of a size that is not that told.
        for size in (0, 1, 2, 4, 6):
            check_refused(self, InvalidTable, OWN, by_order, size, list(range(size)), OWN)

    def test_fresh(self):
        check_fresh(self, by_order, 3, [2, 0, 1], of_ratios(of_fractions(OWN)))
        check_fresh(self, by_order, 0, [], [])


class AllTies(unittest.TestCase):

    def test_tables_above_nought(self):
        chance = random.Random(105)
        for size in range(7):
            plan = Plan(size, [], all_ties(size))
            for _ in range(3):
                table = some_own(plan, chance)
                told = tied_telling(size, table)
                self.assertIs(type(told), tuple)
                check_told(self, told[0], [[0] * size] * size)
                check_told(self, told[1], of_fractions(table))
                self.assertIs(is_telling(plan, told), True)
                self.assertEqual(tied_telling(table=tuple(tuple(row) for row in table), size=size), told)
        for table in NO_OWNS[-6:]:
            check_stopped(self, NotAbove, tied_telling, 3, table)

    def test_refused(self):
        check_parameters(self, tied_telling, {"size": 3, "table": OWN}, {"size": (InvalidSize, NO_SIZES), "table": (InvalidTable, NO_SYMMETRIC)})
        for size in (0, 1, 2, 4, 6):
            check_refused(self, InvalidTable, OWN, tied_telling, size, OWN)

    def test_fresh(self):
        check_fresh(self, tied_telling, 3, of_ratios(of_fractions(OWN)))


if __name__ == "__main__":
    unittest.main()

"""Pushes told back: equations, and tellings of tables."""

import random
import unittest

from tests.drawn import drawings
from tests.kinds import check_fresh, check_parameters, check_refused, check_stopped
from tests.reckoned import check_told, of_fractions, of_ratios
from tests.told import (bars_of, equations_by_definition, plain_ones, some_own, some_pushes, some_symmetric, some_tellings,
                        table_by_definition)
from tests.wrong import LINE, NO_OWNS, NO_PLANS, NO_PUSHES, NO_SYMMETRIC, NO_THINGS, OWN, PUSHES
from toldpushes.back import equations, told_back
from toldpushes.errors import InvalidPlan, InvalidPushes, InvalidTable, InvalidThing, NotPlain
from toldpushes.plans import Plan
from toldpushes.ratios import Ratio
from toldpushes.tables import is_above
from toldpushes.tellings import is_telling, table_of

BOW = Plan(2, [(0, 1)], [(0, 1)])


def plain_tellings(seed):
    """Plain plans, with tellings of them."""
    chance = random.Random(seed)
    return [(plan, (some_pushes(plan, chance), some_own(plan, chance))) for plan in plain_ones(seed) for _ in range(2)]


class Equations(unittest.TestCase):

    def check_equations(self, plan, pushes, table, thing):
        told = equations(plan, pushes, table, thing)
        rows, goals = told
        wanted, there = equations_by_definition(plan, pushes, table, thing)
        self.assertEqual([type(told), type(rows), type(goals)], [tuple, list, list])
        self.assertLessEqual({type(row) for row in rows}, {list})
        self.assertLessEqual({type(number) for row in [goals, *rows] for number in row}, {Ratio})
        self.assertEqual((of_fractions(rows), of_fractions([goals])[0]), (wanted, there))

    def test_any_pushes_and_tables(self):
        chance, barred = random.Random(51), 0
        for drawing in drawings():
            plan = Plan(*drawing)
            pushes, table = some_pushes(plan, chance), some_symmetric(plan.width, chance)
            for thing in range(plan.width):
                self.check_equations(plan, pushes, table, thing)
            barred += len(bars_of(plan)) > 0
        self.assertGreater(barred, 20)

    def test_fulfilled_by_tellings(self):
        for plan, (pushes, own) in some_tellings(52):
            table, plain = table_of(plan, (pushes, own)), of_fractions(pushes)
            for thing in range(plan.width):
                self.check_equations(plan, pushes, table, thing)
                rows, goals = equations(plan, pushes, table, thing)
                worths = [plain[start][thing] for start, end in plan.arrows() if end == thing]
                for row, goal in zip(of_fractions(rows), of_fractions([goals])[0]):
                    self.assertEqual(sum(number * worth for number, worth in zip(row, worths)), goal)

    def test_pushes_to_things_not_earlier_do_not_matter(self):
        chance = random.Random(53)
        for drawing in drawings():
            plan = Plan(*drawing)
            order, table = plan.order(), some_symmetric(plan.width, chance)
            pushes, other = some_pushes(plan, chance), some_pushes(plan, chance)
            for thing in range(plan.width):
                earlier = order[:order.index(thing)]
                mixed = [[pushes[i][j] if j in earlier else other[i][j] for j in range(plan.width)] for i in range(plan.width)]
                self.assertEqual(equations(plan, mixed, table, thing), equations(plan, pushes, table, thing))

    def test_things_that_nothing_pushes(self):
        lone = Plan(3, [], [(0, 2)])
        table = [[1, 2, 3], [2, 5, 7], [3, 7, 11]]
        noughts = [[0] * 3] * 3
        self.assertEqual(equations(lone, noughts, table, 0), ([], []))
        self.assertEqual(equations(lone, noughts, table, 1), ([[]], [Ratio(2)]))
        self.assertEqual(equations(lone, noughts, table, 2), ([[]], [Ratio(7)]))

    def test_orders_that_do_not_rise(self):
        bent, table = Plan(3, [(2, 0), (1, 2)], []), ((1, 2, 3), (2, 5, 7), (3, 7, 11))
        pushes = [[0, 0, 0], [0, 0, 2], [9, 0, 0]]
        self.assertEqual(equations(bent, pushes, table, 1), ([], []))
        self.assertEqual(equations(thing=2, table=table, pushes=pushes, plan=bent), ([[Ratio(5)]], [Ratio(7)]))
        self.assertEqual(equations(bent, pushes, table, 0), ([[Ratio(7)], [Ratio(-3)]], [Ratio(2), Ratio(-1)]))

    def test_ties_on_either_side(self):
        for low, high in ((0, 1), (0, 2), (1, 2)):
            for order in ([(2, 1), (1, 0)], [(1, 0), (0, 2)], [(0, 1), (1, 2)]):
                plan = Plan(3, order, [(low, high)])
                for thing in range(3):
                    self.check_equations(plan, [[0] * 3] * 3, [[1, 2, 3], [2, 5, 7], [3, 7, 11]], thing)


class ToldBack(unittest.TestCase):

    def test_tellings(self):
        for plan, (pushes, own) in plain_tellings(54):
            told = told_back(plan, of_ratios(table_by_definition((pushes, own))))
            self.assertIs(type(told), tuple)
            check_told(self, told[0], of_fractions(pushes))
            check_told(self, told[1], of_fractions(own))
        self.assertEqual(told_back(Plan(0, [], []), ()), ([], []))
        self.assertEqual(told_back(table=((Ratio(1, 2),),), plan=Plan(1, [], [])), ([[Ratio(0)]], [[Ratio(1, 2)]]))

    def test_other_tables(self):
        chance, none, some = random.Random(55), 0, 0
        for plan, telling in plain_tellings(56):
            table = of_ratios(table_by_definition(telling))
            for _ in range(3 if plan.width > 1 else 0):
                row, place = chance.randrange(plan.width), chance.randrange(plan.width)
                by = chance.choice([1, -1, Ratio(1, 3), 100])
                table[row][place] = table[place][row] = table[row][place] + by
                told = told_back(plan, table)
                if told is None:
                    none += 1
                else:
                    self.assertTrue(is_telling(plan, told))
                    self.assertEqual(table_of(plan, told), table)
                    some += 1
                if not is_above(table):
                    self.assertIsNone(told)
        self.assertGreater(min(none, some), 60)

    def test_none(self):
        lone = Plan(2, [], [])
        for table in ([[1, 1], [1, 2]], [[1, 2], [2, 1]], [[0, 0], [0, 1]], [[-1, 0], [0, 1]], [[1, 0], [0, 0]]):
            self.assertIsNone(told_back(lone, table))
        # It would be told by division, but is not above nought.
        for table in ([[1, 2], [2, 4]], [[1, 2], [2, 3]], [[0, 0], [0, 1]], [[-1, 1], [1, 1]]):
            self.assertIsNone(told_back(Plan(2, [(0, 1)], []), table))
        self.assertIsNone(told_back(LINE, [[1, 0, 0], [0, 1, 1], [0, 1, 1]]))

    def test_misfit_at_an_early_thing_alone(self):
        plan = Plan(3, [(1, 2)], [])
        self.assertIsNone(told_back(plan, [[2, 1, 0], [1, 2, 0], [0, 0, 1]]))
        self.assertIsNone(told_back(plan, [[2, 0, 1], [0, 2, 0], [1, 0, 1]]))
        self.assertIsNotNone(told_back(plan, [[2, 0, 0], [0, 2, 1], [0, 1, 1]]))

    def test_not_plain(self):
        for plan in (BOW, Plan(2, [(1, 0)], [(0, 1)])):
            check_stopped(self, NotPlain, told_back, plan, [[1, 0], [0, 1]])
            check_stopped(self, NotPlain, told_back, plan, [[1, 2], [2, 1]])
        barred = [plan for plan, _ in some_tellings(57) if bars_of(plan)]
        self.assertGreater(len(barred), 20)
        for plan in barred:
            check_stopped(self, NotPlain, told_back, plan, [[int(i == j) for j in range(plan.width)] for i in range(plan.width)])


class Refused(unittest.TestCase):

    def test_equations(self):
        check_parameters(self, equations, {"plan": LINE, "pushes": PUSHES, "table": OWN, "thing": 2},
                         {"plan": (InvalidPlan, NO_PLANS), "pushes": (InvalidPushes, NO_PUSHES), "table": (InvalidTable, NO_SYMMETRIC),
                          "thing": (InvalidThing, NO_THINGS)})
        check_refused(self, InvalidThing, 0, equations, Plan(0, [], []), [], [], 0)

    def test_told_back(self):
        # The plan is not plain: so what is wrong with the table comes ahead of that.
        plan = Plan(3, [(0, 1)], [(0, 1)])
        check_parameters(self, told_back, {"plan": plan, "table": OWN}, {"plan": (InvalidPlan, NO_PLANS), "table": (InvalidTable, NO_SYMMETRIC)})
        check_stopped(self, NotPlain, told_back, plan, OWN)
        for table in NO_OWNS[len(NO_SYMMETRIC):]:
            self.assertIn(type(told_back(LINE, table)), (tuple, type(None)))

    def test_fresh(self):
        table = table_of(LINE, (PUSHES, OWN))
        check_fresh(self, told_back, LINE, table)
        check_fresh(self, told_back, Plan(2, [], []), of_ratios([[1, 0], [0, 1]]))
        for thing in range(3):
            check_fresh(self, equations, LINE, PUSHES, table, thing)
            check_fresh(self, equations, LINE, of_ratios([[0] * 3] * 3), OWN, thing)


if __name__ == "__main__":
    unittest.main()

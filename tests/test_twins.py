"""Twins: what are some, those of barred lots, and how two tellings are unlike."""

import random
import unittest

from tests.drawn import drawings
from tests.kinds import ALL_KINDS, Stubborn, check_fresh, check_parameters, check_refused, check_stopped
from tests.reckoned import of_fractions, of_ratios
from tests.told import bars_of, has_head, lots_of, plain_ones, some_own, some_pushes, some_tellings, table_by_definition
from tests.wrong import LINE, NO_LOTS, NO_PLANS, NO_TELLINGS, OWN, PUSHES
from toldpushes.errors import InvalidLot, InvalidPlan, InvalidTelling, NotBarred
from toldpushes.plans import Plan
from toldpushes.ratios import Ratio
from toldpushes.tellings import is_telling
from toldpushes.twins import apart, are_twins, same_table, twins, twins_of

BOW = Plan(2, [(0, 1)], [(0, 1)])
FIRST, SECOND = ([[0, 0], [0, 0]], [[1, 0], [0, 1]]), ([[0, 1], [0, 0]], [[1, -1], [-1, 2]])


class AreTwins(unittest.TestCase):

    def test_bow(self):
        third = ([[0, Ratio(1, 2)], [0, 0]], [[1, Ratio(-1, 2)], [Ratio(-1, 2), Ratio(5, 4)]])
        for one in (FIRST, SECOND, third):
            for other in (FIRST, SECOND, third):
                self.assertIs(are_twins(BOW, (one, other)), one is not other)
        self.assertIs(are_twins(value=(FIRST, SECOND), plan=BOW), True)

    def test_what_are_none(self):
        # Unlike tables; alike pushes; no tuple; more or fewer than two; no tellings; alike worths.
        other = ([[0, 2], [0, 0]], [[1, -1], [-1, 2]])
        same = (of_ratios(FIRST[0]), tuple(FIRST[1]))
        for value in ((FIRST, other), (FIRST, FIRST), [FIRST, SECOND], (FIRST,), (FIRST, SECOND, SECOND), (), ((FIRST, SECOND),), FIRST,
                      (FIRST, list(SECOND)), (list(FIRST), SECOND), (FIRST, same), (same, FIRST), (FIRST, None), (None, SECOND), (FIRST, Stubborn()),
                      (Stubborn(), SECOND), {0: FIRST, 1: SECOND}, iter((FIRST, SECOND)), (FIRST, (SECOND[0], FIRST[1], SECOND[1])),
                      (FIRST, (SECOND[0], [[1, -1], [-1, 1]])), (FIRST, ([[0, True], [0, 0]], SECOND[1])),
                      (FIRST, ([[0, 0], [1, 0]], SECOND[1])), (FIRST, ([[0, 0], [0, 0]], [[2, 0], [0, 1]]))):
            self.assertIs(are_twins(BOW, value), False)
        for plan in (Plan(0, [], []), BOW, LINE):
            for value in ALL_KINDS:
                self.assertIs(are_twins(plan, value), False)
                self.assertIs(are_twins(plan, (value, value)), False)
        self.assertIs(are_twins(Plan(0, [], []), (([], []), ([], []))), False)
        for telling in NO_TELLINGS:
            self.assertIs(are_twins(LINE, ((PUSHES, OWN), telling)), False)
            self.assertIs(are_twins(LINE, (telling, (PUSHES, OWN))), False)

    def test_pushes_that_are_unlike_by_places(self):
        plan = Plan(3, [(0, 1), (1, 2)], [(0, 1), (0, 2)])
        found = twins(plan)
        for one in found:
            for other in found:
                self.assertIs(are_twins(plan, (one, other)), one is not other)

    def test_plain_plans_have_none(self):
        chance = random.Random(71)
        for plan in plain_ones(72):
            one, other = [(some_pushes(plan, chance), some_own(plan, chance)) for _ in range(2)]
            self.assertIs(are_twins(plan, (one, other)), False)
            self.assertIs(are_twins(plan, (one, one)), False)


class Told(unittest.TestCase):

    def check_twins(self, plan, value):
        """They are twins, of told tables with INTEGERS alone; a list of their pushes in Fractions."""
        self.assertIs(are_twins(plan, value), True)
        self.assertEqual([type(value), len(value)] + [type(telling) for telling in value], [tuple, 2, tuple, tuple])
        for telling in value:
            self.assertIs(is_telling(plan, telling), True)
            for table in telling:
                self.assertEqual([type(table)] + [type(row) for row in table], [list] * (plan.width + 1))
                for row in table:
                    self.assertTrue(all(type(number) is Ratio and number.is_whole for number in row))
        first, second = value
        self.assertEqual(table_by_definition(first), table_by_definition(second))
        return [of_fractions(telling[0]) for telling in value]

    def check_twins_of(self, plan, lot):
        first, second = self.check_twins(plan, twins_of(plan, lot))
        top = [thing for thing in lot if has_head(plan, lot, thing)][0]
        unlike = [(i, j) for i in range(plan.width) for j in range(plan.width) if first[i][j] != second[i][j]]
        self.assertTrue(unlike)
        self.assertTrue(all(start in lot and end == top for start, end in unlike))
        for i in range(plan.width):
            for j in range(plan.width):
                if i not in lot or j not in lot:
                    self.assertEqual((first[i][j], second[i][j]), (0, 0))
        self.assertEqual(twins_of(lot=tuple(lot), plan=plan), twins_of(plan, lot))

    def test_drawn_plans(self):
        plain, lots = 0, 0
        for drawing in drawings():
            plan = Plan(*drawing)
            found = bars_of(plan)
            if found:
                self.check_twins(plan, twins(plan))
            else:
                self.assertIsNone(twins(plan))
                plain += 1
            for lot in found[:12] + found[-3:]:
                self.check_twins_of(plan, lot)
                lots += 1
        self.assertGreater(min(plain, lots), 5)
        self.assertGreater(lots, 100)

    def test_all_plans_of_three_things(self):
        for arrows in ([(0, 1), (1, 2)], [(2, 1), (1, 0)], [(0, 1), (0, 2), (1, 2)], [(1, 0), (2, 0)], [(0, 2), (2, 1)]):
            for ties in ([], [(0, 1)], [(0, 2)], [(1, 2)], [(0, 1), (0, 2)], [(0, 1), (1, 2)], [(0, 2), (1, 2)], [(0, 1), (0, 2), (1, 2)]):
                plan = Plan(3, arrows, ties)
                for lot in lots_of(3):
                    if lot in bars_of(plan):
                        self.check_twins_of(plan, lot)
                    else:
                        check_stopped(self, NotBarred, twins_of, plan, lot)

    def test_six_things_in_a_row(self):
        plan = Plan(6, [(at, at + 1) for at in range(5)], [(0, 2), (0, 4), (2, 4), (1, 4), (1, 3), (3, 5)])
        self.check_twins_of(plan, [0, 1, 2, 3, 4, 5])
        turned = Plan(6, [(at + 1, at) for at in range(5)], [(3, 5), (1, 5), (1, 3), (1, 4), (2, 4), (0, 2)])
        self.check_twins_of(turned, [0, 1, 2, 3, 4, 5])

    def test_plain(self):
        for plan in plain_ones(73):
            self.assertIsNone(twins(plan))
            for lot in lots_of(plan.width)[::3]:
                check_stopped(self, NotBarred, twins_of, plan, lot)
        self.assertIsNone(twins(plan=Plan(0, [], [])))
        self.check_twins(BOW, twins(plan=BOW))


class TwoTellings(unittest.TestCase):

    def test_apart_and_same_table(self):
        chance = random.Random(74)
        for plan, telling in some_tellings(75):
            other = some_pushes(plan, chance), some_own(plan, chance)
            first, second = of_fractions(telling[0]), of_fractions(other[0])
            told = apart(plan, telling, other)
            self.assertEqual(told, [(i, j) for i, j in plan.arrows() if first[i][j] != second[i][j]])
            self.assertEqual([type(told)] + [type(arrow) for arrow in told], [list] + [tuple] * len(told))
            self.assertEqual(apart(other=telling, telling=other, plan=plan), told)
            self.assertIs(same_table(plan, telling, other), table_by_definition(telling) == table_by_definition(other))
            like = of_ratios(first), tuple(tuple(row) for row in telling[1])
            self.assertEqual([apart(plan, telling, like), same_table(plan, telling, like)], [[], True])
            if bars_of(plan):
                found = twins(plan)
                self.assertEqual([same_table(plan, *found), len(apart(plan, *found)) > 0], [True, True])
        self.assertIs(same_table(other=SECOND, telling=FIRST, plan=BOW), True)
        self.assertIs(same_table(BOW, FIRST, ([[0, 1], [0, 0]], [[1, -1], [-1, 3]])), False)
        self.assertEqual(apart(Plan(0, [], []), ([], []), ((), ())), [])


class Refused(unittest.TestCase):

    def test_plans(self):
        for value in NO_PLANS:
            check_refused(self, InvalidPlan, value, are_twins, value, (FIRST, SECOND))
            check_refused(self, InvalidPlan, value, are_twins, value="later", plan=value)
        check_parameters(self, twins, {"plan": LINE}, {"plan": (InvalidPlan, NO_PLANS)})

    def test_lots(self):
        # The lot is not barred: so what is wrong with it comes ahead of that.
        check_parameters(self, twins_of, {"plan": LINE, "lot": [0, 1]}, {"plan": (InvalidPlan, NO_PLANS), "lot": (InvalidLot, NO_LOTS)})
        check_stopped(self, NotBarred, twins_of, LINE, [0, 1])
        for lot in ([], [0], [1]):
            check_stopped(self, NotBarred, twins_of, BOW, lot)

    def test_tellings(self):
        for call in (apart, same_table):
            check_parameters(self, call, {"plan": LINE, "telling": (PUSHES, OWN), "other": (PUSHES, OWN)},
                             {"plan": (InvalidPlan, NO_PLANS), "telling": (InvalidTelling, NO_TELLINGS), "other": (InvalidTelling, NO_TELLINGS)})

    def test_fresh(self):
        plan = Plan(4, [(0, 1), (1, 2), (2, 3)], [(0, 1), (0, 2), (0, 3), (1, 3)])
        check_fresh(self, twins, plan)
        for lot in bars_of(plan):
            check_fresh(self, twins_of, plan, lot)
        check_fresh(self, are_twins, BOW, (FIRST, SECOND))
        check_fresh(self, apart, BOW, FIRST, SECOND)
        check_fresh(self, same_table, BOW, FIRST, SECOND)


if __name__ == "__main__":
    unittest.main()

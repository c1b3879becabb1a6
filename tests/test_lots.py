"""Lots: what is one, heads, hanging together, barred lots."""

import unittest

from tests.drawn import drawings
from tests.kinds import ALL_KINDS, check_fresh, check_parameters, check_refused
from tests.told import has_head, is_barring_lot, is_hanging, lots_of
from tests.wrong import LINE, NO_LOTS, NO_PLANS
from toldpushes.errors import InvalidLot, InvalidPlan
from toldpushes.lots import hangs, head, is_barred, is_lot
from toldpushes.plans import Plan


class Lots(unittest.TestCase):

    def test_is_lot(self):
        for size in range(7):
            plan = Plan(size, [], [])
            for lot in lots_of(size):
                self.assertIs(is_lot(plan, lot), True)
                self.assertIs(is_lot(value=tuple(lot), plan=plan), True)
                self.assertIs(is_lot(plan, lot[::-1]), len(lot) < 2)
                self.assertIs(is_lot(plan, lot + [size]), False)
        for value in NO_LOTS:
            self.assertIs(is_lot(LINE, value), False)
        for value in ALL_KINDS:
            self.assertIs(is_lot(Plan(0, [], []), value), type(value) in (list, tuple) and len(value) == 0)

    def test_each_lot(self):
        for drawing in drawings():
            plan = Plan(*drawing)
            for lot in lots_of(plan.width):
                heads = [thing for thing in lot if has_head(plan, lot, thing)]
                self.assertLessEqual(len(heads), 1)
                told = head(plan, lot)
                self.assertEqual([told], heads or [None])
                self.assertIn(type(told), (int, type(None)))
                self.assertIs(hangs(plan, lot), is_hanging(plan, lot))
                self.assertIs(is_barred(plan, lot), is_barring_lot(plan, lot))
                self.assertEqual([head(lot=tuple(lot), plan=plan), hangs(lot=tuple(lot), plan=plan), is_barred(value=tuple(lot), plan=plan)],
                                 [told, is_hanging(plan, lot), is_barring_lot(plan, lot)])

    def test_few_things(self):
        for size in range(1, 7):
            plan = Plan(size, [(size - 1, 0)] if size > 1 else [], [])
            self.assertEqual([head(plan, []), hangs(plan, []), is_barred(plan, [])], [None, True, False])
            for thing in range(size):
                self.assertEqual([head(plan, [thing]), hangs(plan, [thing]), is_barred(plan, [thing])], [thing, True, False])

    def test_heads_neither_first_nor_last(self):
        plan = Plan(4, [(0, 2), (3, 2), (1, 0)], [(0, 3), (2, 3), (1, 2)])
        self.assertEqual([head(plan, [0, 1, 2, 3]), head(plan, [0, 2, 3]), head(plan, [0, 1, 2]), head(plan, [1, 2, 3])], [2, 2, 2, None])
        self.assertEqual([is_barred(plan, [0, 1, 2, 3]), is_barred(plan, [0, 2, 3]), is_barred(plan, [0, 1, 2]), is_barred(plan, [2, 3])],
                         [True, True, False, True])
        # The head may be thing 0.
        self.assertIs(is_barred(Plan(2, [(1, 0)], [(0, 1)]), [0, 1]), True)

    def test_arrows_and_ties_within_the_lot_alone(self):
        plan = Plan(4, [(0, 1), (1, 2), (2, 3)], [(0, 1), (1, 3)])
        self.assertEqual([head(plan, [0, 3]), head(plan, [0, 2, 3]), hangs(plan, [0, 3]), hangs(plan, [0, 1, 3])], [None, None, False, True])
        self.assertEqual([is_barred(plan, [0, 1]), is_barred(plan, [0, 1, 3]), is_barred(plan, [1, 3])], [True, False, False])

    def test_none_barred(self):
        bow = Plan(3, [(0, 1), (1, 2)], [(0, 1), (0, 2)])
        self.assertIs(is_barred(bow, [0, 1, 2]), True)
        for value in NO_LOTS + [[1, 0], (1, 0), [0, 1, 1], {0, 1}, [2, 1, 0], "01", [False, 1], [0, True]]:
            self.assertIs(is_barred(bow, value), False)


class Refused(unittest.TestCase):

    def test_plans_and_lots(self):
        for call in (is_lot, is_barred):
            for value in NO_PLANS:
                check_refused(self, InvalidPlan, value, call, value, [0])
                check_refused(self, InvalidPlan, value, call, value="later", plan=value)
        for call in (head, hangs):
            check_parameters(self, call, {"plan": LINE, "lot": [0, 1]}, {"plan": (InvalidPlan, NO_PLANS), "lot": (InvalidLot, NO_LOTS)})

    def test_arguments_stay(self):
        for call in (is_lot, is_barred, head, hangs):
            check_fresh(self, call, LINE, [0, 1, 2])


if __name__ == "__main__":
    unittest.main()

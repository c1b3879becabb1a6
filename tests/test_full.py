"""Full plans, what they tell back, and fillings."""

import random
import unittest
from itertools import product

from tests.drawn import all_arrows, all_ties, drawings, has_ring
from tests.kinds import check_fresh, check_parameters, check_refused, check_stopped, check_too_many
from tests.reckoned import check_told, of_fractions, of_ratios
from tests.test_plans import NO_SIZES
from tests.told import (bars_of, dense_plain_ones, is_above_nought, plain_ones, some_own, some_symmetric, some_tellings,
                        table_by_definition)
from tests.wrong import LINE, NO_OWNS, NO_PLANS, NO_SYMMETRIC, OWN
from toldpushes.errors import InvalidPlan, InvalidSize, InvalidTable, NotAbove, NotFull, NotPlain, TooMany
from toldpushes.full import fillings, full_back, full_plans, is_full
from toldpushes.plans import Plan
from toldpushes.ratios import Ratio
from toldpushes.tellings import is_telling

BOW = Plan(2, [(0, 1)], [(0, 1)])
# One pair is loose, 1 and 4: an arrow from 4 to 1 could be put, but in the order 1 stands earlier.
NO_FILLING = Plan(5, [(1, 3), (2, 0), (2, 3), (4, 2)], [(0, 1), (0, 3), (0, 4), (1, 2), (3, 4)])


def is_full_by_definition(plan):
    """Whether each two things have just one arrow or tie, and no lot is barred."""
    joins = [(min(pair), max(pair)) for pair in plan.arrows()] + plan.ties()
    return sorted(joins) == all_ties(plan.width) and not bars_of(plan)


def by_pairs(plan):
    return plan.arrows(), plan.ties()


def fillings_by_definition(plan):
    """All fillings: each way to put an arrow along the order, or a tie, between two things with neither."""
    size, order, arrows, ties = plan.width, plan.order(), plan.arrows(), plan.ties()
    free = [(low, high) for low, high in all_ties(size) if not {(low, high), (high, low)} & {*arrows, *ties}]
    found = []
    for choice in product((True, False), repeat=len(free)):
        new_arrows = [tuple(sorted(pair, key=order.index)) for pair, is_arrow in zip(free, choice) if is_arrow]
        new_ties = [pair for pair, is_arrow in zip(free, choice) if not is_arrow]
        filled = Plan(size, arrows + new_arrows, ties + new_ties)
        if is_full_by_definition(filled):
            found.append(filled)
    return sorted(found, key=by_pairs)


def all_plans(size):
    """All plans of up to three things."""
    for arrow_bits in product((False, True), repeat=len(all_arrows(size))):
        arrows = [arrow for arrow, has in zip(all_arrows(size), arrow_bits) if has]
        if not has_ring(size, arrows):
            for tie_bits in product((False, True), repeat=len(all_ties(size))):
                yield Plan(size, arrows, [tie for tie, has in zip(all_ties(size), tie_bits) if has])


class IsFull(unittest.TestCase):

    def test_all_plans_of_up_to_three_things(self):
        many = 0
        for size in range(4):
            for plan in all_plans(size):
                wanted = is_full_by_definition(plan)
                self.assertIs(is_full(plan), wanted)
                many += wanted
        self.assertGreater(many, 20)

    def test_drawn_plans(self):
        for drawing in drawings():
            self.assertIs(is_full(Plan(*drawing)), is_full_by_definition(Plan(*drawing)))
        for size in range(7):
            self.assertIs(is_full(plan=Plan(size, [], all_ties(size))), True)
            self.assertIs(is_full(Plan(size, all_ties(size), [])), True)
            self.assertIs(is_full(Plan(size, [(high, low) for low, high in all_ties(size)], [])), True)
        self.assertIs(is_full(BOW), False)
        # Each two things have just one arrow or tie, but 0, 1 and 2 are barred.
        self.assertIs(is_full(Plan(4, [(0, 1), (1, 2), (2, 3)], [(0, 2), (0, 3), (1, 3)])), False)


class FullPlans(unittest.TestCase):

    def test_full_plans(self):
        for size in range(5):
            wanted = []
            for choice in product((True, False), repeat=len(all_ties(size))):
                plan = Plan(size, [pair for pair, has in zip(all_ties(size), choice) if has],
                            [pair for pair, has in zip(all_ties(size), choice) if not has])
                if not bars_of(plan):
                    wanted.append(plan)
            told = full_plans(size)
            self.assertIs(type(told), list)
            self.assertEqual(told, sorted(wanted, key=by_pairs))
            self.assertEqual(len(told), [1, 1, 2, 8, 60][size])
            self.assertEqual(full_plans(size=size), told)

    def test_refused(self):
        for size in (5, 6):
            check_too_many(self, "size", 4, full_plans, size)
            check_too_many(self, "size", 4, full_plans, size=size)
        for size in NO_SIZES:
            check_refused(self, InvalidSize, size, full_plans, size)
            check_refused(self, InvalidSize, size, full_plans, size=size)

    def test_fresh(self):
        for size in range(4):
            check_fresh(self, full_plans, size)


class FullBack(unittest.TestCase):

    def test_tables_above_nought(self):
        chance = random.Random(81)
        plans = [plan for size in range(5) for plan in full_plans(size)[::3]] + [Plan(3, [(2, 0), (2, 1)], [(0, 1)])]
        plans += [Plan(size, [], all_ties(size)) for size in (5, 6)] + [Plan(size, all_ties(size), []) for size in (5, 6)]
        plans += [Plan(6, [(high, low) for low, high in all_ties(6)], [])]
        for plan in plans:
            self.assertIs(is_full(plan), True)
            for _ in range(3):
                # Any table above nought, as own of the plan of all ties may be any.
                table = of_ratios(of_fractions(some_own(Plan(plan.width, [], all_ties(plan.width)), chance)))
                told = full_back(plan, table)
                self.assertIs(type(told), tuple)
                self.assertIs(is_telling(plan, told), True)
                check_told(self, table, table_by_definition(told))
                self.assertEqual(full_back(table=tuple(tuple(row) for row in table), plan=plan), told)

    def test_noughts(self):
        tied = Plan(2, [], [(0, 1)])
        self.assertEqual(full_back(tied, [[1, 2], [2, 5]]), (of_ratios([[0, 0], [0, 0]]), of_ratios([[1, 2], [2, 5]])))
        self.assertEqual(full_back(Plan(2, [(1, 0)], []), [[1, 2], [2, 5]]),
                         ([[Ratio(0), Ratio(0)], [Ratio(2, 5), Ratio(0)]], [[Ratio(1, 5), Ratio(0)], [Ratio(0), Ratio(5)]]))
        self.assertEqual([full_back(Plan(0, [], []), []), full_back(Plan(1, [], []), [[3]])], [([], []), ([[Ratio(0)]], [[Ratio(3)]])])

    def test_not_full_ahead_of_not_above(self):
        low, high = [[1, 2], [2, 1]], [[1, 0], [0, 1]]
        for plan in (Plan(2, [], []), BOW, Plan(2, [(1, 0)], [(0, 1)])):
            for table in (low, high):
                check_stopped(self, NotFull, full_back, plan, table)
        for plan in (Plan(2, [(0, 1)], []), Plan(2, [(1, 0)], []), Plan(2, [], [(0, 1)])):
            for table in (low, [[0, 0], [0, 1]], [[1, 1], [1, 1]], [[-1, 0], [0, -1]]):
                check_stopped(self, NotAbove, full_back, plan, table)

    def test_any_tables(self):
        chance = random.Random(82)
        for plan in full_plans(3):
            for _ in range(12):
                table = some_symmetric(3, chance)
                if is_above_nought(of_fractions(table)):
                    self.assertEqual(table_by_definition(full_back(plan, table)), of_fractions(table))
                else:
                    check_stopped(self, NotAbove, full_back, plan, table)

    def test_refused(self):
        for plan in (LINE, Plan(3, [], all_ties(3))):
            check_parameters(self, full_back, {"plan": plan, "table": OWN}, {"plan": (InvalidPlan, NO_PLANS), "table": (InvalidTable, NO_SYMMETRIC)})
        for table in NO_OWNS[len(NO_SYMMETRIC):]:
            check_stopped(self, NotFull, full_back, Plan(3, [(0, 1)], []), table)
        check_parameters(self, is_full, {"plan": LINE}, {"plan": (InvalidPlan, NO_PLANS)})

    def test_fresh(self):
        check_fresh(self, full_back, Plan(2, [], [(0, 1)]), of_ratios([[2, 1], [1, 2]]))
        check_fresh(self, full_back, Plan(3, [(0, 1), (2, 1)], [(0, 2)]), of_ratios(of_fractions(OWN)))


class Fillings(unittest.TestCase):

    def check_fillings(self, plan):
        wanted = fillings_by_definition(plan)
        if len(wanted) > 60:
            check_too_many(self, "fillings", 60, fillings, plan)
        else:
            told = fillings(plan)
            self.assertIs(type(told), list)
            self.assertEqual(told, wanted)
        return len(wanted)

    def test_plain_plans(self):
        chance, found = random.Random(83), []
        for plan in plain_ones(84):
            loose = len(all_ties(plan.width)) - len(plan.arrows()) - len(plan.ties())
            if loose < 8 or (plan.width < 6 and chance.random() < 0.2):
                found.append(self.check_fillings(plan))
        found += [self.check_fillings(plan) for plan in dense_plain_ones(87)]
        self.assertGreater(len(found), 60)
        self.assertTrue(any(many > 3 for many in found))

    def test_limit(self):
        # Four things without arrows and ties have just 60 fillings, five many more.
        self.assertEqual(self.check_fillings(Plan(4, [], [])), 60)
        self.assertEqual(fillings(Plan(4, [], [])), full_plans(4))
        for size in (5, 6):
            check_too_many(self, "fillings", 60, fillings, Plan(size, [], []))
        self.assertEqual(self.check_fillings(Plan(5, [(0, 3), (1, 2), (1, 3), (2, 3)], [])), 60)
        self.assertEqual(self.check_fillings(Plan(6, [(0, 4), (0, 5), (1, 3), (2, 5), (3, 5)], [(0, 3), (1, 5)])), 61)
        check_too_many(self, "fillings", 60, fillings, plan=Plan(5, [(0, 1)], []))

    def test_none(self):
        self.assertEqual(fillings(NO_FILLING), [])
        self.assertEqual(self.check_fillings(NO_FILLING), 0)

    def test_orders_that_do_not_rise(self):
        self.assertEqual(fillings(plan=Plan(3, [(2, 0)], [])), fillings_by_definition(Plan(3, [(2, 0)], [])))
        # 1, 2, 0: so arrows go from 1 to 0, never from 0 to 1.
        self.assertTrue(all((0, 1) not in plan.arrows() and (2, 1) not in plan.arrows() for plan in fillings(Plan(3, [(2, 0)], []))))
        self.assertTrue(any((1, 0) in plan.arrows() for plan in fillings(Plan(3, [(2, 0)], []))))

    def test_of_full_plans(self):
        for size in range(4):
            for plan in full_plans(size):
                self.assertEqual(fillings(plan), [plan])

    def test_same_telling_in_the_end(self):
        for plan, telling in some_tellings(85):
            if plan.width < 5 and not bars_of(plan):
                for filled in fillings(plan)[::7]:
                    told = full_back(filled, of_ratios(table_by_definition(telling)))
                    self.assertEqual([of_fractions(table) for table in told], [of_fractions(table) for table in telling])

    def test_not_plain(self):
        for plan in (BOW, Plan(3, [(0, 1)], [(0, 1)])):
            check_stopped(self, NotPlain, fillings, plan)
        # Barred, and with many loose pairs: NotPlain comes ahead of TooMany.
        check_stopped(self, NotPlain, fillings, Plan(6, [(0, 1)], [(0, 1)]))
        for plan, _ in some_tellings(86):
            if bars_of(plan):
                check_stopped(self, NotPlain, fillings, plan)

    def test_refused(self):
        check_parameters(self, fillings, {"plan": LINE}, {"plan": (InvalidPlan, NO_PLANS)})

    def test_fresh(self):
        check_fresh(self, fillings, Plan(3, [(2, 0)], []))
        with self.assertRaises(TooMany):
            fillings(Plan(5, [], []))


if __name__ == "__main__":
    unittest.main()

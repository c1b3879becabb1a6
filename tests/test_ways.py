"""What leads to what, parts by ties, and plans made of other plans."""

import unittest
from itertools import combinations, permutations

from tests.drawn import all_ties, closed, drawings, has_ring
from tests.kinds import Stubborn, all_but, check_refused
from tests.test_plans import NO_PAIR_LISTS
from tests.wrong import NO_LOTS, NO_PLANS, NO_THINGS
from toldpushes.errors import (InvalidArrows, InvalidLot, InvalidOrder, InvalidPlan, InvalidThing, InvalidTies, TooMany)
from toldpushes.plans import Plan
from toldpushes.ratios import Ratio
from toldpushes.ways import ahead, beside, cut, leads, renamed, tie_parts, with_more, without

LINE = Plan(3, [(1, 2), (0, 1)], [(0, 2)])
# No orders of a plan of size 3.
NO_ORDERS = all_but() + [[], [0, 1], [0, 1, 1], [0, 0, 0], [0, 1, 3], [1, 2, 3], [0, 1, 2, 2], [0, 1, 2, 3], [False, 1, 2],
                         [0, True, 2], [0, 1, Ratio(2)], "012", {0, 1, 2}, {0: 0, 1: 1, 2: 2}, range(3), [[0, 1, 2]], [0, 1, -1],
                         [0, 1, None], [0, 1, Stubborn()], iter([0, 1, 2])]


def plans():
    return [(Plan(*drawing), *drawing) for drawing in drawings()]


class Ways(unittest.TestCase):

    def test_leads_and_ahead(self):
        for plan, size, arrows, _ in plans():
            wanted = closed(size, arrows)
            for end in range(size):
                for start in range(size):
                    self.assertIs(leads(plan, start, end), (start, end) in wanted)
                rising = [start for start in range(size) if (start, end) in wanted and start != end]
                self.assertEqual(ahead(plan, end), rising)
                self.assertIs(type(ahead(plan, end)), list)
        self.assertIs(leads(end=1, start=0, plan=LINE), True)
        self.assertEqual(ahead(thing=1, plan=LINE), [0])

    def test_not_all_that_stand_earlier_are_ahead(self):
        plan = Plan(4, [(3, 1)], [(0, 1)])
        self.assertEqual([plan.order(), ahead(plan, 1)], [[0, 2, 3, 1], [3]])

    def test_tie_parts(self):
        for plan, size, _, ties in plans():
            wanted = closed(size, ties + [(high, low) for low, high in ties])
            parts = sorted({tuple(end for end in range(size) if (start, end) in wanted) for start in range(size)})
            self.assertEqual(tie_parts(plan), [list(part) for part in parts])
        self.assertEqual(tie_parts(plan=Plan(5, [(0, 1)], [(1, 4), (0, 2), (3, 4)])), [[0, 2], [1, 3, 4]])
        self.assertEqual([tie_parts(Plan(0, [], [])), tie_parts(Plan(2, [(0, 1)], []))], [[], [[0], [1]]])
        self.assertEqual(tie_parts(Plan(6, [], [(0, 5), (1, 5), (2, 4), (3, 4)])), [[0, 1, 5], [2, 3, 4]])

    def test_refused(self):
        for value in NO_PLANS:
            check_refused(self, InvalidPlan, value, leads, value, "later", "later")
            check_refused(self, InvalidPlan, value, ahead, value, "later")
            check_refused(self, InvalidPlan, value, tie_parts, plan=value)
        two = Plan(2, [(0, 1)], [])
        for value in NO_THINGS + [2]:
            check_refused(self, InvalidThing, value, leads, two, value, "later")
            check_refused(self, InvalidThing, value, leads, two, 0, value)
            check_refused(self, InvalidThing, value, leads, end=value, start=1, plan=two)
            check_refused(self, InvalidThing, value, ahead, two, value)
            check_refused(self, InvalidThing, value, ahead, thing=value, plan=two)
        check_refused(self, InvalidThing, 0, ahead, Plan(0, [], []), 0)


class MoreAndFewer(unittest.TestCase):

    def test_with_more(self):
        for plan, size, arrows, ties in plans():
            for many in (0, 1, len(arrows)):
                for few in (0, 1, len(ties)):
                    less = Plan(size, arrows[many:], ties[few:])
                    self.assertEqual(with_more(less, arrows[:many], tuple(ties[:few])), plan)
                    self.assertEqual(less, Plan(size, arrows[many:], ties[few:]))
        self.assertEqual(with_more(ties=[(0, 1)], arrows=((0, 2),), plan=LINE),
                         Plan(3, [(0, 1), (0, 2), (1, 2)], [(0, 1), (0, 2)]))

    def test_with_one_arrow_more(self):
        for plan, size, arrows, ties in plans():
            for arrow in permutations(range(size), 2):
                if arrow in arrows or has_ring(size, arrows + [arrow]):
                    check_refused(self, InvalidArrows, [arrow], with_more, plan, [arrow], "later")
                else:
                    self.assertEqual(with_more(plan, [arrow], []), Plan(size, arrows + [arrow], ties))
            for tie in all_ties(size):
                if tie in ties:
                    check_refused(self, InvalidTies, (tie,), with_more, plan, [], (tie,))
                else:
                    self.assertEqual(with_more(plan, [], [tie]), Plan(size, arrows, ties + [tie]))

    def test_order_may_change(self):
        self.assertEqual([LINE.order(), with_more(Plan(3, [], []), [(2, 0)], []).order()], [[0, 1, 2], [1, 2, 0]])
        self.assertEqual(without(Plan(2, [(1, 0)], []), [(1, 0)], []).order(), [0, 1])

    def test_with_more_refused(self):
        for value in NO_PLANS:
            check_refused(self, InvalidPlan, value, with_more, value, "later", "later")
        for arrows in NO_PAIR_LISTS + [[(2, 0)], [(2, 1)], [(0, 1)], ((0, 2), (1, 2)), [(0, 2), (0, 2)], [(0, 2), (2, 1)]]:
            check_refused(self, InvalidArrows, arrows, with_more, LINE, arrows, "later")
            check_refused(self, InvalidArrows, arrows, with_more, ties=[(0, 2)], arrows=arrows, plan=LINE)
        for ties in NO_PAIR_LISTS + [[(0, 2)], [(1, 0)], ((0, 1), (0, 2)), [(0, 1), (0, 1)], [(0, 1), (2, 1)]]:
            check_refused(self, InvalidTies, ties, with_more, LINE, [(0, 2)], ties)
            check_refused(self, InvalidTies, ties, with_more, ties=ties, arrows=(), plan=LINE)
        ring = [(1, 2), (2, 0)]
        check_refused(self, InvalidArrows, ring, with_more, Plan(3, [(0, 1)], []), ring, [])

    def test_without(self):
        for plan, size, arrows, ties in plans():
            for many in (0, 1, len(arrows)):
                for few in (0, 1, len(ties)):
                    less = without(plan, tuple(arrows[:many]), ties[:few])
                    self.assertEqual(less, Plan(size, arrows[many:], ties[few:]))
            self.assertEqual(plan, Plan(size, arrows, ties))
        self.assertEqual(without(ties=((0, 2),), arrows=[(0, 1)], plan=LINE), Plan(3, [(1, 2)], []))

    def test_without_refused(self):
        for value in NO_PLANS:
            check_refused(self, InvalidPlan, value, without, value, "later", "later")
        for arrows in NO_PAIR_LISTS + [[(0, 2)], [(1, 0)], [(0, 1), (0, 2)], [(0, 1), (0, 1)], [[0, 1]], [(False, 1)]]:
            check_refused(self, InvalidArrows, arrows, without, LINE, arrows, "later")
            check_refused(self, InvalidArrows, arrows, without, ties=[], arrows=arrows, plan=LINE)
        for ties in NO_PAIR_LISTS + [[(0, 1)], [(2, 0)], [(0, 2), (0, 2)], [[0, 2]], [(False, 2)], [(0, 2), (1, 2)]]:
            check_refused(self, InvalidTies, ties, without, LINE, [(0, 1)], ties)
            check_refused(self, InvalidTies, ties, without, ties=ties, arrows=[], plan=LINE)


class MadeOfOthers(unittest.TestCase):

    def test_renamed(self):
        for plan, size, arrows, ties in plans():
            for names in (list(range(size)), tuple(range(size))[::-1], [(thing + 1) % size for thing in range(size)]):
                wanted = Plan(size, [(names[i], names[j]) for i, j in arrows], [tuple(sorted([names[i], names[j]])) for i, j in ties])
                self.assertEqual(renamed(plan, names), wanted)
        self.assertEqual(renamed(order=(2, 0, 1), plan=LINE), Plan(3, [(2, 0), (0, 1)], [(1, 2)]))
        self.assertEqual(renamed(Plan(3, [(0, 1)], [(0, 1)]), [1, 2, 0]), Plan(3, [(1, 2)], [(1, 2)]))

    def test_cut(self):
        for plan, size, arrows, ties in plans():
            for many in range(size + 1):
                for lot in combinations(range(size), many):
                    wanted = Plan(many, [(lot.index(i), lot.index(j)) for i, j in arrows if i in lot and j in lot],
                                  [(lot.index(i), lot.index(j)) for i, j in ties if i in lot and j in lot])
                    self.assertEqual(cut(plan, lot), wanted)
                    self.assertEqual(cut(plan, list(lot)), wanted)
        self.assertEqual(cut(lot=[1, 2], plan=LINE), Plan(2, [(0, 1)], []))
        self.assertEqual([cut(LINE, []), cut(LINE, [0, 1, 2])], [Plan(0, [], []), LINE])

    def test_beside(self):
        for plan, size, arrows, ties in plans()[::3]:
            for other, wide, more, bonds in plans()[::4]:
                if size + wide > 6:
                    with self.assertRaises(TooMany) as caught:
                        beside(plan, other)
                    self.assertEqual((caught.exception.what, caught.exception.limit), ("size", 6))
                else:
                    wanted = Plan(size + wide, arrows + [(i + size, j + size) for i, j in more],
                                  ties + [(i + size, j + size) for i, j in bonds])
                    self.assertEqual(beside(plan, other), wanted)
        self.assertEqual(beside(other=Plan(1, [], []), plan=LINE), Plan(4, [(0, 1), (1, 2)], [(0, 2)]))
        self.assertEqual(beside(LINE, LINE), Plan(6, [(0, 1), (1, 2), (3, 4), (4, 5)], [(0, 2), (3, 5)]))
        self.assertEqual(beside(Plan(0, [], []), Plan(0, [], [])), Plan(0, [], []))

    def test_refused(self):
        for value in NO_PLANS:
            for call in (renamed, cut, beside):
                check_refused(self, InvalidPlan, value, call, value, "later")
            check_refused(self, InvalidPlan, value, beside, LINE, value)
            check_refused(self, InvalidPlan, value, beside, other=value, plan=Plan(6, [], []))
        for value in NO_LOTS:
            check_refused(self, InvalidLot, value, cut, LINE, value)
            check_refused(self, InvalidLot, value, cut, lot=value, plan=LINE)
        for value in NO_ORDERS:
            check_refused(self, InvalidOrder, value, renamed, LINE, value)
            check_refused(self, InvalidOrder, value, renamed, order=value, plan=LINE)
        self.assertEqual(renamed(Plan(0, [], []), []), Plan(0, [], []))

    def test_too_many_last(self):
        six = Plan(6, [], [])
        with self.assertRaises(TooMany) as caught:
            beside(six, Plan(1, [], []))
        self.assertIs(type(caught.exception), TooMany)
        self.assertEqual((caught.exception.what, caught.exception.limit), ("size", 6))
        self.assertEqual([beside(six, Plan(0, [], [])), beside(Plan(0, [], []), six)], [six, six])

    def test_arguments_stay(self):
        arrows, ties, order, lot = [(0, 2)], [(0, 1)], [2, 0, 1], [0, 2]
        for call in (lambda: with_more(LINE, arrows, ties), lambda: renamed(LINE, order), lambda: cut(LINE, lot),
                     lambda: without(with_more(LINE, arrows, ties), arrows, ties), lambda: beside(LINE, LINE)):
            call()
            self.assertEqual((arrows, ties, order, lot), ([(0, 2)], [(0, 1)], [2, 0, 1], [0, 2]))
            self.assertEqual(LINE, Plan(3, [(0, 1), (1, 2)], [(0, 2)]))


if __name__ == "__main__":
    unittest.main()

"""Plans: what they are made of, their order, equality, how they are shown, and that they never change."""

import unittest
from itertools import permutations

from tests.drawn import all_arrows, all_ties, drawings, has_ring
from tests.kinds import ALL_KINDS, Stubborn, all_but, check_refused, looped
from toldpushes.errors import InvalidArrows, InvalidSize, InvalidTies
from toldpushes.plans import Plan
from toldpushes.ratios import Ratio

NO_SIZES = [-1, 7, 8, 10 ** 30, True, False, None, "3", [3], (3,), Ratio(0), Ratio(3), Stubborn(), b"", {}]

# No pair of unlike things of a plan of size 3.
NO_PAIRS = [[0, 1], (0, True), (False, 1), (True, 2), (0, 3), (3, 0), (-1, 0), (0, -1), (0, 10 ** 30), (0, 0), (2, 2), (0,),
            (0, 1, 2), (), "01", None, 0, 1, Ratio(1), (0, Ratio(1)), (0, "1"), (0, None), ((0, 1),), (0, (1,)), {0, 1},
            {0: 1}, range(2), b"\x00\x01", Stubborn(), (0, Stubborn()), (Stubborn(), 1), looped()]

NO_PAIR_LISTS = all_but([], (), [(0, 1)]) + [[pair] for pair in NO_PAIRS] + [[(0, 1), pair] for pair in NO_PAIRS]
NO_PAIR_LISTS += [[(0, 1), (0, 1)], ((0, 1), (1, 2), (0, 1)), {(0, 1)}, {(0, 1): 1}, (0, 1), "", iter([]), range(0)]

RINGS = [(2, [(0, 1), (1, 0)]), (3, [(0, 1), (1, 2), (2, 0)]), (3, [(2, 1), (1, 0), (0, 2)]), (4, [(2, 3), (3, 2), (0, 1)]),
         (6, [(0, 1), (1, 2), (2, 3), (3, 4), (4, 5), (5, 0)]), (6, [(3, 5), (5, 1), (1, 3)]), (4, [(0, 1), (1, 2), (2, 1), (2, 3)]),
         (6, [(5, 4), (4, 3), (3, 2), (2, 1), (1, 0), (0, 5)]), (5, ((0, 1), (1, 2), (2, 3), (3, 1), (3, 4)))]


def least_order(size, arrows):
    """The least list in which each arrow goes from an earlier to a later thing, of all lists."""
    return min(list(order) for order in permutations(range(size))
               if all(order.index(start) < order.index(end) for start, end in arrows))


class Made(unittest.TestCase):

    def test_parts(self):
        for size, arrows, ties in drawings():
            plan = Plan(size, arrows, ties)
            self.assertEqual((plan.width, plan.arrows(), plan.ties()), (size, sorted(arrows), sorted(ties)))
            self.assertIs(type(plan.width), int)
            self.assertEqual((type(plan.arrows()), type(plan.ties())), (list, list))
            self.assertEqual({type(pair) for pair in plan.arrows() + plan.ties()} - {tuple}, set())
            self.assertEqual(Plan(size=size, ties=tuple(ties), arrows=tuple(arrows[::-1])), plan)

    def test_order(self):
        for size, arrows, ties in drawings():
            order = Plan(size, arrows, ties).order()
            self.assertIs(type(order), list)
            self.assertEqual(order, least_order(size, arrows))

    def test_orders_that_do_not_rise(self):
        self.assertEqual(Plan(2, [(1, 0)], []).order(), [1, 0])
        self.assertEqual(Plan(3, [(2, 1)], []).order(), [0, 2, 1])
        self.assertEqual(Plan(4, [(3, 0), (2, 1)], [(0, 1)]).order(), [2, 1, 3, 0])
        self.assertEqual(Plan(6, [(5, 4), (4, 3), (3, 2), (2, 1), (1, 0)], []).order(), [5, 4, 3, 2, 1, 0])
        self.assertEqual([Plan(size, [], []).order() for size in range(7)], [list(range(size)) for size in range(7)])

    def test_all_arrows_of_small_plans(self):
        for size in (2, 3):
            for bits in range(2 ** len(all_arrows(size))):
                arrows = [arrow for k, arrow in enumerate(all_arrows(size)) if bits >> k & 1]
                if has_ring(size, arrows):
                    check_refused(self, InvalidArrows, arrows, Plan, size, arrows, [])
                else:
                    self.assertEqual(Plan(size, arrows, []).order(), least_order(size, arrows))

    def test_arrow_and_tie_of_two_things(self):
        self.assertEqual(Plan(2, [(1, 0)], [(0, 1)]).arrows(), [(1, 0)])

    def test_stands_in_the_class_itself(self):
        for name in "__init__ width arrows ties order __eq__ __repr__".split():
            self.assertIn(name, vars(Plan))


class Same(unittest.TestCase):

    def test_equal(self):
        plan = Plan(3, [(0, 1), (0, 2)], [(0, 1), (1, 2)])
        self.assertIs(plan == Plan(3, ((0, 2), (0, 1)), [(1, 2), (0, 1)]), True)
        self.assertIs(plan != Plan(3, [(0, 2), (0, 1)], ((1, 2), (0, 1))), False)
        for other in (Plan(4, [(0, 1), (0, 2)], [(0, 1), (1, 2)]), Plan(3, [(0, 1), (2, 0)], [(0, 1), (1, 2)]),
                      Plan(3, [(0, 1)], [(0, 1), (1, 2)]), Plan(3, [(0, 1), (0, 2)], [(0, 1)]),
                      Plan(3, [(0, 1), (0, 2)], [(0, 1), (0, 2)]), Plan(3, [(0, 1), (1, 2)], [(0, 1), (0, 2)])):
            self.assertIs(plan == other, False)
            self.assertIs(plan != other, True)
        self.assertIs(Plan(0, [], []) == Plan(0, (), ()), True)
        self.assertIs(Plan(0, [], []) == Plan(1, [], []), False)

    def test_not_equal_to_other_kinds(self):
        plan = Plan(3, [(0, 1)], [(0, 2)])
        for value in ALL_KINDS + [repr(plan), (3, [(0, 1)], [(0, 2)]), [3, [(0, 1)], [(0, 2)]], 3]:
            if not isinstance(value, Stubborn):
                self.assertIs(plan == value, False)
                self.assertIs(value == plan, False)
                self.assertIs(plan != value, True)
                self.assertIs(value != plan, True)

    def test_repr(self):
        for plan, text in [(Plan(3, [(0, 1)], [(0, 2)]), "Plan(3, [(0, 1)], [(0, 2)])"), (Plan(0, [], []), "Plan(0, [], [])"),
                           (Plan(3, ((1, 2), (1, 0)), ((1, 2), (0, 2))), "Plan(3, [(1, 0), (1, 2)], [(0, 2), (1, 2)])")]:
            self.assertEqual(repr(plan), text)
            self.assertEqual(repr([plan]), f"[{text}]")
        for size, arrows, ties in drawings():
            plan = Plan(size, arrows, ties)
            self.assertEqual(eval(repr(plan), {"Plan": Plan}), plan)


class NeverChanged(unittest.TestCase):

    def test_by_lists_that_were_passed(self):
        arrows, ties = [(0, 1)], [(0, 2)]
        plan = Plan(3, arrows, ties)
        arrows.append((1, 2))
        ties.clear()
        self.assertEqual(repr(plan), "Plan(3, [(0, 1)], [(0, 2)])")
        arrows, ties = [(1, 2), (0, 1)], [(1, 2), (0, 2)]
        Plan(3, arrows, ties)
        self.assertEqual((arrows, ties), ([(1, 2), (0, 1)], [(1, 2), (0, 2)]))

    def test_by_lists_that_were_told(self):
        plan = Plan(3, [(0, 1)], [(0, 2)])
        plan.arrows().append((1, 2))
        plan.ties().clear()
        plan.order().reverse()
        self.assertEqual(repr(plan), "Plan(3, [(0, 1)], [(0, 2)])")
        self.assertEqual((plan.arrows(), plan.ties(), plan.order()), ([(0, 1)], [(0, 2)], [0, 1, 2]))
        self.assertIsNot(plan.arrows(), plan.arrows())

    def test_width(self):
        with self.assertRaises(AttributeError):
            Plan(1, [], []).width = 2


class Refused(unittest.TestCase):

    def test_size(self):
        for size in NO_SIZES:
            check_refused(self, InvalidSize, size, Plan, size, "later", "later")
            check_refused(self, InvalidSize, size, Plan, ties=[], arrows=[], size=size)
        for size in range(7):
            self.assertEqual(Plan(size, [], []).width, size)

    def test_arrows(self):
        for arrows in NO_PAIR_LISTS:
            check_refused(self, InvalidArrows, arrows, Plan, 3, arrows, "later")
            check_refused(self, InvalidArrows, arrows, Plan, ties=[], arrows=arrows, size=3)
        for size, arrows in [(0, [(0, 1)]), (1, [(0, 0)]), (1, [(0, 1)]), (2, [(1, 2)]), (6, [(5, 6)]), (6, [(6, 5)])]:
            check_refused(self, InvalidArrows, arrows, Plan, size, arrows, [])

    def test_rings(self):
        for size, arrows in RINGS:
            check_refused(self, InvalidArrows, arrows, Plan, size, arrows, "later")
            check_refused(self, InvalidArrows, arrows[::-1], Plan, size, arrows[::-1], [])
        self.assertEqual(len(Plan(6, [(0, 1), (1, 2), (2, 3), (3, 4), (4, 5), (0, 5)], []).arrows()), 6)

    def test_ties(self):
        for ties in NO_PAIR_LISTS + [[(1, 0)], [(0, 1), (2, 1)], [(0, 1), (1, 0)], ((2, 0),)]:
            check_refused(self, InvalidTies, ties, Plan, 3, [(0, 1)], ties)
            check_refused(self, InvalidTies, ties, Plan, ties=ties, arrows=(), size=3)
        for size, ties in [(0, [(0, 1)]), (1, [(0, 1)]), (2, [(1, 2)]), (6, [(5, 6)])]:
            check_refused(self, InvalidTies, ties, Plan, size, [], ties)
        self.assertEqual(Plan(6, [], all_ties(6)).ties(), all_ties(6))


if __name__ == "__main__":
    unittest.main()

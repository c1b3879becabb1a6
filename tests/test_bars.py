"""Barred lots against a look at all lots, and what can be put to plain plans."""

import random
import unittest

from tests.drawn import all_arrows, all_ties, drawings, has_ring
from tests.kinds import check_fresh, check_parameters, check_refused, check_stopped
from tests.told import bars_of, dense_plain_ones, has_head, is_hanging, lots_of
from tests.wrong import LINE, NO_PLANS, NO_THINGS
from toldpushes.bars import bar_of, barred_lots, can_put, greatest_lot, is_plain, least_bars
from toldpushes.errors import InvalidPlan, InvalidThing, NotPlain
from toldpushes.plans import Plan
from toldpushes.ways import tie_parts

BOW = Plan(2, [(1, 0)], [(0, 1)])


def thinned():
    """The drawn plans, and plans with some of their arrows and ties, among them many plain ones."""
    chance, found = random.Random(41), [Plan(*drawing) for drawing in drawings()]
    for size, arrows, ties in drawings():
        few = [arrow for arrow in arrows if chance.random() < 0.6]
        found.append(Plan(size, few, [tie for tie in ties if chance.random() < 0.5]))
        found.append(Plan(size, few, []))
        found.append(Plan(size, [], ties))
    return found


def put_by_definition(plan):
    """All arrows and all ties each of which alone can be put to a plain plan."""
    size, arrows, ties = plan.width, plan.arrows(), plan.ties()
    free = [(low, high) for low, high in all_ties(size) if not {(low, high), (high, low)} & {*arrows, *ties}]
    new_arrows = [(start, end) for start, end in all_arrows(size) if (min(start, end), max(start, end)) in free
                  and not has_ring(size, arrows + [(start, end)])]
    return ([arrow for arrow in new_arrows if not bars_of(Plan(size, arrows + [arrow], ties))],
            [tie for tie in free if not bars_of(Plan(size, arrows, ties + [tie]))])


class Bars(unittest.TestCase):

    def test_all_lots(self):
        plain = 0
        for plan in thinned():
            wanted = bars_of(plan)
            self.assertEqual(barred_lots(plan), wanted)
            self.assertEqual(least_bars(plan), [lot for lot in wanted if not any(set(other) < set(lot) for other in wanted)])
            self.assertIs(is_plain(plan), not wanted)
            told = bar_of(plan)
            if wanted:
                self.assertIs(type(told), list)
                self.assertIn(told, wanted)
            else:
                self.assertIsNone(told)
                plain += 1
            for lot in wanted:
                self.assertTrue(any(set(lot) <= set(part) for part in tie_parts(plan)))
        self.assertGreater(plain, 60)

    def test_greatest_lots(self):
        for plan in thinned():
            for thing in range(plan.width):
                those = [lot for lot in lots_of(plan.width) if has_head(plan, lot, thing) and is_hanging(plan, lot)]
                told = greatest_lot(plan, thing)
                self.assertIs(type(told), list)
                self.assertIn(told, those)
                self.assertTrue(all(set(lot) <= set(told) for lot in those))
        self.assertEqual(greatest_lot(thing=1, plan=LINE), [1])

    def test_small_plans(self):
        for plan in (Plan(0, [], []), Plan(1, [], [])):
            self.assertEqual([barred_lots(plan), least_bars(plan), is_plain(plan), bar_of(plan), can_put(plan)],
                             [[], [], True, None, ([], [])])
        self.assertEqual([barred_lots(plan=BOW), least_bars(plan=BOW), is_plain(plan=BOW), bar_of(plan=BOW), greatest_lot(BOW, 0)],
                         [[[0, 1]], [[0, 1]], False, [0, 1], [0, 1]])
        self.assertEqual(greatest_lot(BOW, 1), [1])

    def test_least_lots(self):
        plan = Plan(4, [(0, 1), (1, 2), (2, 3)], [(0, 1), (0, 2), (2, 3)])
        self.assertEqual(barred_lots(plan), [[0, 1], [0, 1, 2], [0, 1, 2, 3], [2, 3]])
        self.assertEqual(least_bars(plan), [[0, 1], [2, 3]])

    def test_chain_of_four(self):
        arrows, ties = [(0, 1), (1, 2), (2, 3)], [(0, 2), (0, 3), (1, 3)]
        self.assertEqual(barred_lots(Plan(4, arrows, ties)), [[0, 1, 2, 3]])
        for left in ties:
            self.assertIs(is_plain(Plan(4, arrows, [tie for tie in ties if tie != left])), True)


class CanPut(unittest.TestCase):

    def test_can_put(self):
        some_rings = 0
        for plan in [plan for at, plan in enumerate(thinned()) if plan.width < 6 or at % 5 == 0]:
            if bars_of(plan):
                check_stopped(self, NotPlain, can_put, plan)
            else:
                told = can_put(plan)
                self.assertEqual(told, put_by_definition(plan))
                self.assertEqual([type(told), type(told[0]), type(told[1])], [tuple, list, list])
                some_rings += any(has_ring(plan.width, plan.arrows() + [arrow]) for arrow in all_arrows(plan.width))
        self.assertGreater(some_rings, 30)

    def test_what_would_bar(self):
        arrows, ties = [(0, 1), (1, 2), (2, 3)], [(0, 2), (0, 3), (1, 3)]
        for left in ties:
            self.assertEqual(can_put(Plan(4, arrows, [tie for tie in ties if tie != left])), ([left], []))
        barring_arrows, barring_ties = 0, 0
        for plan in dense_plain_ones(42):
            wanted = put_by_definition(plan)
            self.assertEqual(can_put(plan), wanted)
            arrows, ties = plan.arrows(), plan.ties()
            loose = [(low, high) for low, high in all_ties(plan.width) if not {(low, high), (high, low)} & {*arrows, *ties}]
            straight = [arrow for pair in loose for arrow in (pair, pair[::-1]) if not has_ring(plan.width, arrows + [arrow])]
            barring_arrows += len(wanted[0]) < len(straight)
            barring_ties += len(wanted[1]) < len(loose)
        self.assertGreater(min(barring_arrows, barring_ties), 3)

    def test_arrows_in_either_direction(self):
        self.assertEqual(can_put(plan=Plan(2, [], [])), ([(0, 1), (1, 0)], [(0, 1)]))
        self.assertEqual([can_put(Plan(2, [(1, 0)], [])), can_put(Plan(2, [], [(0, 1)]))], [([], []), ([], [])])
        self.assertEqual(can_put(Plan(3, [(2, 1)], [])), ([(0, 1), (0, 2), (1, 0), (2, 0)], [(0, 1), (0, 2)]))

    def test_no_rings(self):
        self.assertEqual(can_put(Plan(3, [(0, 1), (1, 2)], [])), ([(0, 2)], [(0, 2)]))

    def test_not_plain(self):
        for plan in (BOW, Plan(3, [(0, 1)], [(0, 1)]), Plan(3, [(0, 1), (1, 2)], [(1, 2)])):
            check_stopped(self, NotPlain, can_put, plan)


class Refused(unittest.TestCase):

    def test_refused(self):
        wrong = {"plan": (InvalidPlan, NO_PLANS)}
        for call in (barred_lots, least_bars, is_plain, bar_of, can_put):
            check_parameters(self, call, {"plan": LINE}, wrong)
        check_parameters(self, greatest_lot, {"plan": LINE, "thing": 2}, {**wrong, "thing": (InvalidThing, NO_THINGS)})
        check_refused(self, InvalidThing, 0, greatest_lot, Plan(0, [], []), 0)

    def test_fresh(self):
        chain = Plan(4, [(0, 1), (1, 2), (2, 3)], [(0, 1), (0, 2), (1, 3)])
        for call in (barred_lots, least_bars, is_plain, bar_of):
            check_fresh(self, call, chain)
        check_fresh(self, greatest_lot, chain, 3)
        check_fresh(self, can_put, Plan(4, [(0, 1)], [(2, 3)]))


if __name__ == "__main__":
    unittest.main()

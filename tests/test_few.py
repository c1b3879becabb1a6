"""The fewest known arrows that are enough."""

import random
import unittest

from tests.drawn import all_ties, drawings
from tests.kinds import check_fresh, check_parameters, check_refused, check_too_many
from tests.test_known import lots_by, subsets
from tests.told import plain_ones
from tests.wrong import LINE, NO_PLANS
from toldpushes.errors import InvalidPlan
from toldpushes.few import all_fewest, fewest, fewest_known
from toldpushes.known import is_enough
from toldpushes.plans import Plan

BOW, THREE = Plan(2, [(0, 1)], [(0, 1)]), Plan(3, [(0, 1), (1, 2)], [(0, 1), (0, 2)])


def fewest_by_definition(plan):
    """All lists of the fewest known arrows that are enough, by a look at all lists of arrows."""
    enough = [known for known in subsets(plan.arrows()) if not lots_by(plan, known)]
    least = min(len(known) for known in enough)
    return sorted(known for known in enough if len(known) == least)


class Few(unittest.TestCase):

    def check_few(self, plan):
        wanted = fewest_by_definition(plan)
        told = all_fewest(plan)
        self.assertEqual(told, wanted)
        self.assertEqual([type(told)] + [type(known) for known in told] + [type(arrow) for known in told for arrow in known],
                         [list] * (1 + len(told)) + [tuple] * sum(len(known) for known in told))
        many = fewest(plan)
        self.assertEqual((type(many), many), (int, len(wanted[0])))
        one = fewest_known(plan)
        self.assertIs(type(one), list)
        self.assertIn(one, wanted)
        self.assertIs(is_enough(plan, one), True)
        return many

    def test_drawn_plans(self):
        found = []
        for drawing in drawings():
            plan = Plan(*drawing)
            if len(plan.arrows()) < 5:
                found.append(self.check_few(plan))
        self.assertGreaterEqual(len(set(found)), 4)

    def test_five_to_seven_arrows(self):
        chance = random.Random(131)
        for many in (5, 6, 7, 7):
            size = chance.choice([5, 6])
            order = chance.sample(range(size), size)
            arrows = [(order[i], order[j]) for i, j in chance.sample(all_ties(size), many)]
            self.check_few(Plan(size, arrows, chance.sample(all_ties(size), 4)))

    def test_plain_plans_want_none(self):
        for plan in plain_ones(132):
            if len(plan.arrows()) < 8:
                self.assertEqual([fewest(plan), fewest_known(plan), all_fewest(plan)], [0, [], [[]]])

    def test_examples_of_the_text(self):
        self.assertEqual([fewest(THREE), fewest_known(THREE), all_fewest(THREE)], [2, [(0, 1), (1, 2)], [[(0, 1), (1, 2)]]])
        self.assertEqual([fewest(plan=BOW), fewest_known(plan=BOW), all_fewest(plan=BOW)], [1, [(0, 1)], [[(0, 1)]]])

    def test_seven_arrows_all_wanted(self):
        # A bow at each arrow: none can be done without.
        arrows = [(0, 1), (0, 2), (0, 3), (0, 4), (0, 5), (1, 2), (1, 3)]
        plan = Plan(6, arrows, arrows)
        self.assertEqual([fewest(plan), fewest_known(plan), all_fewest(plan)], [7, arrows, [arrows]])

    def test_without_arrows(self):
        for size in range(7):
            for ties in ([], all_ties(size)):
                plan = Plan(size, [], ties)
                self.assertEqual([fewest(plan), fewest_known(plan), all_fewest(plan)], [0, [], [[]]])

    def test_several(self):
        # 0 leads to 3, and 1 does, by one arrow each: with either of them known 0, 1, 2 and 3 are no bar.
        plan = Plan(4, [(2, 0), (1, 3), (0, 3)], [(0, 1), (1, 2), (2, 3)])
        self.check_few(plan)
        self.assertEqual(all_fewest(plan), [[(0, 3)], [(1, 3)]])
        # The same at two heads: lists that go together in each way, sorted.
        plan = Plan(5, [(2, 0), (1, 4), (0, 4), (1, 3), (0, 3)], [(0, 1), (1, 2), (2, 3), (2, 4)])
        self.check_few(plan)
        self.assertEqual(all_fewest(plan), [[(0, 3), (0, 4)], [(0, 3), (1, 4)], [(0, 4), (1, 3)], [(1, 3), (1, 4)]])
        for drawing, many in (((4, [(0, 1), (0, 2), (2, 1), (3, 1)], [(0, 1), (0, 3), (2, 3)]), 2),
                              ((5, [(0, 1), (3, 2), (3, 4), (4, 1)], [(0, 3), (0, 4), (1, 3), (2, 4)]), 2),
                              ((5, [(2, 1), (3, 0), (3, 1), (3, 4), (4, 1)], [(0, 3), (1, 3), (2, 3), (2, 4)]), 2)):
            self.check_few(Plan(*drawing))
            self.assertEqual(len(all_fewest(Plan(*drawing))), many)

    def test_too_many(self):
        arrows = [(0, 1), (0, 2), (0, 3), (0, 4), (0, 5), (1, 2), (1, 3), (1, 4)]
        for call in (fewest, fewest_known, all_fewest):
            for ties in ([], [(0, 1)], all_ties(6)):
                check_too_many(self, "arrows", 7, call, Plan(6, arrows, ties))
                check_too_many(self, "arrows", 7, call, plan=Plan(6, all_ties(6), ties))
            call(Plan(6, arrows[1:], []))

    def test_refused(self):
        for call in (fewest, fewest_known, all_fewest):
            check_parameters(self, call, {"plan": LINE}, {"plan": (InvalidPlan, NO_PLANS)})
            check_refused(self, InvalidPlan, [LINE], call, [LINE])

    def test_fresh(self):
        for plan in (BOW, THREE, LINE, Plan(3, [(0, 1), (0, 2), (1, 2)], [(1, 2)])):
            for call in (fewest, fewest_known, all_fewest):
                check_fresh(self, call, plan)


if __name__ == "__main__":
    unittest.main()

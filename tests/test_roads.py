"""Roads: all of them, their worths, and the table that they tell."""

import unittest
from fractions import Fraction
from itertools import combinations, permutations

from tests.drawn import all_ties, drawings
from tests.kinds import ALL_KINDS, Stubborn, all_but, check_fresh, check_parameters, check_refused, check_too_many, looped
from tests.reckoned import check_told, of_fractions, of_ratios
from tests.told import some_tellings, table_by_definition
from tests.wrong import LINE, NO_PLANS, NO_TELLINGS, NO_THINGS, OWN, PUSHES
from toldpushes.errors import InvalidPlan, InvalidRoad, InvalidTelling, InvalidThing, TooMany
from toldpushes.plans import Plan
from toldpushes.ratios import Ratio
from toldpushes.roads import is_joined, road_worth, roads, table_by_roads
from toldpushes.tellings import is_telling, ones, table_of

# All arrows along 0 .. 5: here no two things have more roads than those from 5 to 5.
ALONG = all_ties(6)
JUST_400 = Plan(6, ALONG, [(0, 4), (1, 4), (2, 4), (4, 5)])
ABOVE_400 = Plan(6, [arrow for arrow in ALONG if arrow != (0, 4)], [(0, 4), (1, 3), (1, 4), (2, 4), (3, 5)])

# No roads of LINE: arrows (0, 1) and (1, 2), a tie (0, 2).
NO_ROADS = all_but() + [[[0], [0]], ([0],), ([0], [0], [0]), ([], []), ([], [0]), ([0], []), ([0], 0), (0, [0]), ([0], None), ("0", "0"),
                        ([0], "0"), ([0], {0}), ([0], {0: 0}), ([0], range(1)), ([0], [True]), ([False], [0]), ([0], [3]), ([-1], [-1]),
                        ([3], [3]), ([0], [1]), ([1], [2]), ([0, 1], [1]), ([1], [1, 0]), ([2, 0], [0]), ([0], [0, 2]), ([0], [0, 0]),
                        ([0, 0], [0]), ([1, 0], [1]), ([2, 1, 0], [1, 2]), ([2, 1], [2]), ([0], [0, 1, 3]), ([0], [0, 1, True]),
                        ([0], [0, 1, Ratio(2)]), ([0], [Stubborn()]), (Stubborn(), [0]), ([0], Stubborn()), (looped(), looped()),
                        ([0], [[0]]), ([(0,)], [0]), (([0], [0]),), ([0], [0, None]), ([None, 0], [0]), iter([[0], [0]]),
                        {0: [0], 1: [0]}, (b"\x00", b"\x00"), ([1, 0], [2, 1]), ([0], [0, True]), ([True, 0], [0]), ([0], [0, Stubborn()]),
                        ([Stubborn(), 0], [0]), ([1, False], [0]), ([1, 0], [False])]


def walks_down(plan):
    """All lists of things of which each one pushes the next one, by a look at all lists of unlike things."""
    things, arrows = range(plan.width), plan.arrows()
    return [list(walk) for many in range(1, plan.width + 1) for walk in permutations(things, many)
            if all(pair in arrows for pair in zip(walk, walk[1:]))]


def roads_by_definition(plan):
    """All roads of the plan."""
    walks, ties = walks_down(plan), plan.ties()
    return sorted((walk[::-1], down) for walk in walks for down in walks
                  if walk[0] == down[0] or (walk[0], down[0]) in ties or (down[0], walk[0]) in ties)


def worth(telling, road):
    (pushes, own), (up, down) = map(of_fractions, telling), road
    found = own[up[-1]][down[0]]
    for end, start in zip(up, up[1:]):
        found *= pushes[start][end]
    for start, end in zip(down, down[1:]):
        found *= pushes[start][end]
    return found


class Roads(unittest.TestCase):

    def check_roads(self, plan):
        found = roads_by_definition(plan)
        for start in range(plan.width):
            for end in range(plan.width):
                wanted = [(up, down) for up, down in found if up[0] == start and down[-1] == end]
                if len(wanted) > 400:
                    check_too_many(self, "roads", 400, roads, plan, start, end)
                else:
                    told = roads(plan, start, end)
                    self.assertEqual(told, wanted)
                    self.assertEqual({type(told)} | {type(part) for road in told for part in road}, {list})
                    self.assertLessEqual({type(road) for road in told}, {tuple})
                self.assertIs(is_joined(plan, start, end), len(wanted) > 0)

    def test_roads(self):
        for drawing in drawings():
            self.check_roads(Plan(*drawing))

    def test_all_small_plans(self):
        for arrows in ([], [(0, 1)], [(2, 0)], [(2, 1), (1, 0)], [(1, 2), (1, 0)], [(0, 2), (1, 2)], [(0, 1), (0, 2), (1, 2)]):
            for many in range(4):
                for ties in combinations(all_ties(3), many):
                    self.check_roads(Plan(3, arrows, ties))

    def test_bow(self):
        bow = Plan(2, [(0, 1)], [(0, 1)])
        self.assertEqual(roads(bow, 0, 1), [([0], [0, 1]), ([0], [1])])
        self.assertEqual(roads(bow, 1, 1), [([1], [0, 1]), ([1], [1]), ([1, 0], [0, 1]), ([1, 0], [1])])
        self.assertEqual(roads(end=0, start=1, plan=bow), [([1], [0]), ([1, 0], [0])])
        self.assertEqual(roads(Plan(2, [], []), 0, 1), [])
        self.assertIs(is_joined(end=1, start=0, plan=Plan(2, [], [])), False)

    def test_limit(self):
        self.assertEqual(len(roads(JUST_400, 5, 5)), 400)
        check_too_many(self, "roads", 400, roads, ABOVE_400, 5, 5)
        self.assertIs(is_joined(ABOVE_400, 5, 5), True)
        self.check_roads(JUST_400)
        self.check_roads(ABOVE_400)


class Worths(unittest.TestCase):

    def test_road_worth(self):
        for plan, telling in some_tellings(31)[::3]:
            for road in roads_by_definition(plan)[:300]:
                told, wanted = road_worth(plan, telling, road), worth(telling, road)
                self.assertIs(type(told), Ratio)
                self.assertEqual(Fraction(told.top, told.bottom), wanted)
                self.assertEqual(road_worth(road=(tuple(road[0]), tuple(road[1])), telling=telling, plan=plan), told)

    def test_worths_of_one_thing_and_of_ways_there_and_back(self):
        telling = ([[0, 3], [0, 0]], [[2, 0], [0, 5]])
        plan = Plan(2, [(0, 1)], [])
        self.assertEqual([road_worth(plan, telling, road) for road in roads(plan, 1, 1)], [Ratio(5), Ratio(18)])
        self.assertEqual(road_worth(plan, telling, ([0], [0])), Ratio(2))

    def test_no_roads(self):
        for value in NO_ROADS:
            check_refused(self, InvalidRoad, value, road_worth, LINE, (PUSHES, OWN), value)
        for value in ALL_KINDS + [([0], [0])]:
            check_refused(self, InvalidRoad, value, road_worth, Plan(0, [], []), ([], []), value)

    def test_each_two_lists(self):
        for plan in (LINE, Plan(3, [(2, 0), (1, 2)], [(0, 1)]), Plan(3, [(0, 1)], [(0, 1), (1, 2)])):
            found, lists = roads_by_definition(plan), [list(walk) for many in range(4) for walk in permutations(range(3), many)]
            for up in lists:
                for down in lists:
                    if (up, down) in found:
                        self.assertIs(type(road_worth(plan, ones(plan), (up, down))), Ratio)
                    else:
                        check_refused(self, InvalidRoad, (up, down), road_worth, plan, ones(plan), (up, down))


class Tables(unittest.TestCase):

    def test_table_by_roads(self):
        many = 0
        for plan, telling in some_tellings(32):
            try:
                told = table_by_roads(plan, telling)
            except TooMany:
                continue
            check_told(self, told, table_by_definition(telling))
            self.assertEqual(table_of(plan, telling), told)
            many += 1
        self.assertGreater(many, 90)
        self.assertEqual(table_by_roads(telling=([], []), plan=Plan(0, [], [])), [])

    def test_limit(self):
        self.assertEqual(table_by_roads(JUST_400, ones(JUST_400)), table_of(JUST_400, ones(JUST_400)))
        check_too_many(self, "roads", 400, table_by_roads, ABOVE_400, ones(ABOVE_400))

    def test_limit_between_unlike_things_alone(self):
        for plan, telling in some_tellings(33):
            found = roads_by_definition(plan)
            most = max([sum((up[0], down[-1]) == ends for up, down in found) for ends in {(up[0], down[-1]) for up, down in found}] + [0])
            if most > 400:
                check_too_many(self, "roads", 400, table_by_roads, plan, telling)
            elif most > 50:
                self.assertEqual(table_by_roads(plan, telling), table_of(plan, telling))

    def test_ones_are_joined(self):
        for drawing in drawings():
            plan = Plan(*drawing)
            self.assertTrue(is_telling(plan, ones(plan)))
            for start, row in enumerate(table_of(plan, ones(plan))):
                for end, number in enumerate(row):
                    self.assertEqual(number.sign > 0, is_joined(plan, start, end))


class Refused(unittest.TestCase):

    def test_things(self):
        for call in (roads, is_joined):
            check_parameters(self, call, {"plan": LINE, "start": 0, "end": 2},
                             {"plan": (InvalidPlan, NO_PLANS), "start": (InvalidThing, NO_THINGS), "end": (InvalidThing, NO_THINGS)})
            # TooMany comes behind what is wrong with the parameters.
            check_refused(self, InvalidThing, 6, call, ABOVE_400, 5, 6)
            check_refused(self, InvalidThing, 0, call, Plan(0, [], []), 0, 0)

    def test_tellings(self):
        valid, wrong = {"plan": LINE, "telling": (PUSHES, OWN)}, {"plan": (InvalidPlan, NO_PLANS), "telling": (InvalidTelling, NO_TELLINGS)}
        check_parameters(self, table_by_roads, valid, wrong)
        check_parameters(self, road_worth, {**valid, "road": ([0], [0])}, {**wrong, "road": (InvalidRoad, NO_ROADS)})
        check_refused(self, InvalidTelling, ([], []), table_by_roads, ABOVE_400, ([], []))

    def test_fresh(self):
        for telling in ((PUSHES, OWN), (of_ratios(of_fractions(PUSHES)), of_ratios(of_fractions(OWN)))):
            check_fresh(self, table_by_roads, LINE, telling)
            check_fresh(self, road_worth, LINE, telling, ([2, 1], [1, 2]))
        for start in range(3):
            for end in range(3):
                check_fresh(self, roads, LINE, start, end)
        check_fresh(self, roads, Plan(3, [(0, 1), (1, 2)], [(0, 1), (0, 2), (1, 2)]), 2, 2)


if __name__ == "__main__":
    unittest.main()
